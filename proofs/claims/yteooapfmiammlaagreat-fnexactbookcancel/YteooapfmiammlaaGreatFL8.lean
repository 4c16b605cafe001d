/- Texts of one proof, one behind the other: SCancel, IEnd, CancelTellI, TradeApp, STrade, IInsert8, IAddT, TradeTellI. -/
import Derived.Test.YteooapfmiammlaaGreatRows
import Derived.Test.YteooapfmiammlaaGreatFA1
import Derived.Test.YteooapfmiammlaaGreatFA2
import Derived.Test.YteooapfmiammlaaGreatFL3
import Derived.Test.YteooapfmiammlaaGreatFL4
import Derived.Test.YteooapfmiammlaaGreatFL5
import Derived.Test.YteooapfmiammlaaGreatFL6
import Derived.Test.YteooapfmiammlaaGreatFL7
import Derived.Maps.AppendAt
import Derived.Shelf.Spec.SlicesInsert
import Derived.Lib.AppendZerosOnto
import Derived.Deep.RegionWith
set_option linter.unusedVariables false
set_option linter.unusedSimpArgs false
namespace Go.Proofs.YteooapfmiammlaaGreat.SCancel
open Go.ChangeShapes Go.WideShapes Go.ChangeAt Go.RowKit BMem Bks ILists BHelp Ans Trd TBox
open IBalsFit (one_more)
open Lots (Says says_of NoOk)
open Tup8 (T8 el8)
open SIssue (to_wb off_box eq_false)
/-- What is asked of a cancelling's arguments. -/
def ToldC (b : Bk) (no : Int) : Prop := Ok b ∧ NoOk no
set_option maxRecDepth 100000 in
set_option maxHeartbeats 16000000 in
theorem sCancel (w : World) (x : Bx) (no : Int) (hr : Rd w x) :
    Calls Tryz.prog 18 #[.agg #[.slice (some ⟨x.ga, 0, none⟩) x.b.ac.length x.ca, .slice (some ⟨x.gi, 0, none⟩) x.b.ic.length x.ci, .slice (some ⟨x.gb, 0, none⟩) x.b.bs.length x.cb, .slice (some ⟨x.gl, 0, none⟩) x.b.ls.length x.cl, .slice (some ⟨x.gt, 0, none⟩) x.b.ts.length x.ct, .int .i64 x.b.lot], .int .i64 no] w (AnsB (ToldC x.b no) (IsCancel x.b no) w) := by
  obtain ⟨b0, h0⟩ := says_of (Ok x.b)
  obtain ⟨b1, h1⟩ := says_of (NoOk no)
  have H0 := hide h0
  have H1 := hide h1
  have S0 := hide (SR.start hr)
  have HR := hide hr
  have nt := hr.nt
  clear h0 h1 hr
  go_enter Tryz.func18, Tryz.ntmps18
  go_wp2_with fail
  refine (SBooksOk.sBooksOk _ x b0 (unhide S0).r (unhide H0)).mono ?_
  rintro e w1 ⟨rfl, bb⟩
  have S1 := hide ((unhide S0).step bb)
  have B1 := hide (unhide S1).b
  clear bb
  obtain ⟨c0, c1, c2, c3, c4, c5⟩ := (unhide S1).c
  have r0 := (unhide S1).v.c0
  have r1 := (unhide S1).v.c1
  have r2 := (unhide S1).v.c2
  have r3 := (unhide S1).v.c3
  have r4 := (unhide S1).v.c4
  have r5 := (unhide S1).v.c5
  have f0 := (unhide S1).v.free 0
  have f1 := (unhide S1).v.free 1
  have f2 := (unhide S1).v.free 2
  have f3 := (unhide S1).v.free 3
  have f4 := (unhide S1).v.free 4
  have f5 := (unhide S1).v.free 5
  cases b0
  · have N := hide (show ¬ ToldC x.b no from fun hh => (unhide H0).no hh.1)
    go_wp2
    refine bodyPost_ret (v := .tuple #[.agg #[.slice none 0 0, .slice none 0 0, .slice none 0 0, .slice none 0 0, .slice none 0 0, .int .i64 0], .int .i64 1]) (by simp [results, Tryz.results18, go_sem, r0, r1, r2, r3, r4, r5]) rfl (.inl ⟨unhide N, rfl, ?_⟩)
    exact six (unhide B1) (by omega) _ _ _ _ _ _
  go_wp2_with fail
  refine (SOk5.sNo no b1 _ (unhide H1)).mono ?_
  rintro e v1 ⟨rfl, rfl⟩
  cases b1
  · have N := hide (show ¬ ToldC x.b no from fun hh => (unhide H1).no hh.2)
    go_wp2
    refine bodyPost_ret (v := .tuple #[.agg #[.slice none 0 0, .slice none 0 0, .slice none 0 0, .slice none 0 0, .slice none 0 0, .int .i64 0], .int .i64 1]) (by simp [results, Tryz.results18, go_sem, r0, r1, r2, r3, r4, r5]) rfl (.inl ⟨unhide N, rfl, ?_⟩)
    exact six (unhide B1) (by omega) _ _ _ _ _ _
  have TT := hide (show ToldC x.b no from ⟨(unhide H0).yes, (unhide H1).yes⟩)
  clear H0 H1 S0
  go_wp2_with fail
  refine (SCopy.sCopy _ x (unhide S1).r).mono ?_
  rintro e w3 ⟨z, hz, rfl, oz, bb⟩
  have S3 := hide ((unhide S1).step bb)
  have S4 := hide ((unhide S3).step (one_more w3 (.cells #[.slice (some ⟨z.ga, 0, none⟩) z.b.ac.length z.ca, .slice (some ⟨z.gi, 0, none⟩) z.b.ic.length z.ci, .slice (some ⟨z.gb, 0, none⟩) z.b.bs.length z.cb, .slice (some ⟨z.gl, 0, none⟩) z.b.ls.length z.cl, .slice (some ⟨z.gt, 0, none⟩) z.b.ts.length z.ct, .int .i64 z.b.lot] 40)))
  have V4 := hide (Box.made (w := w3) (base := w.heap.size) (g := w3.heap.size) (.slice (some ⟨z.ga, 0, none⟩) z.b.ac.length z.ca) (.slice (some ⟨z.gi, 0, none⟩) z.b.ic.length z.ci) (.slice (some ⟨z.gb, 0, none⟩) z.b.bs.length z.cb) (.slice (some ⟨z.gl, 0, none⟩) z.b.ls.length z.cl) (.slice (some ⟨z.gt, 0, none⟩) z.b.ts.length z.ct) (.int .i64 z.b.lot) (unhide S3).b.size rfl)
  have O4 := hide (ow_alloc (oz.rebase (unhide S1).b.size) (.cells #[.slice (some ⟨z.ga, 0, none⟩) z.b.ac.length z.ca, .slice (some ⟨z.gi, 0, none⟩) z.b.ic.length z.ci, .slice (some ⟨z.gb, 0, none⟩) z.b.bs.length z.cb, .slice (some ⟨z.gl, 0, none⟩) z.b.ls.length z.cl, .slice (some ⟨z.gt, 0, none⟩) z.b.ts.length z.ct, .int .i64 z.b.lot] 40))
  have HZ := hide hz
  have LZ := hide (show z.b.ts.length = x.b.ts.length by rw [hz])
  have l3 := (unhide S3).v.lt
  clear bb oz hz
  clear c0 c1 c2 c3 c4 c5 r0 r1 r2 r3 r4 r5 f0 f1 f2 f3 f4 f5
  obtain ⟨c0, c1, c2, c3, c4, c5⟩ := (unhide S4).c
  have r0 := (unhide S4).v.c0
  have r1 := (unhide S4).v.c1
  have r2 := (unhide S4).v.c2
  have r3 := (unhide S4).v.c3
  have r4 := (unhide S4).v.c4
  have r5 := (unhide S4).v.c5
  have f0 := (unhide S4).v.free 0
  have f1 := (unhide S4).v.free 1
  have f2 := (unhide S4).v.free 2
  have f3 := (unhide S4).v.free 3
  have f4 := (unhide S4).v.free 4
  have f5 := (unhide S4).v.free 5
  have n4 : w.heap.size ≠ w3.heap.size := by omega
  go_wp2_with fail
  clear S3
  generalize w3.alloc (.cells #[.slice (some ⟨z.ga, 0, none⟩) z.b.ac.length z.ca, .slice (some ⟨z.gi, 0, none⟩) z.b.ic.length z.ci, .slice (some ⟨z.gb, 0, none⟩) z.b.bs.length z.cb, .slice (some ⟨z.gl, 0, none⟩) z.b.ls.length z.cl, .slice (some ⟨z.gt, 0, none⟩) z.b.ts.length z.ct, .int .i64 z.b.lot] 40) = w4 at *
  refine (STrd.sOpenAt _ x no (unhide S4).r).mono ?_
  rintro e w5 ⟨r, c, ho, rfl, bb⟩
  have S5 := hide ((unhide S4).step bb)
  have V5 := hide ((unhide V4).below bb (unhide V4).lt.2)
  have O5 := hide ((unhide O4).below bb (Nat.le_refl _))
  have F1 := hide (off_box (unhide O5) (unhide S5).v)
  have F2 := hide (off_box (unhide O5) (unhide V5))
  have n1 := (unhide F1).2.2.2.2
  have n2 := (unhide F2).2.2.2.2
  have n3 : w.heap.size + 1 ≠ w3.heap.size := by omega
  clear bb S4 V4 O4
  clear c0 c1 c2 c3 c4 c5 r0 r1 r2 r3 r4 r5 f0 f1 f2 f3 f4 f5
  obtain ⟨c0, c1, c2, c3, c4, c5⟩ := (unhide S5).c
  have r0 := (unhide S5).v.c0
  have r1 := (unhide S5).v.c1
  have r2 := (unhide S5).v.c2
  have r3 := (unhide S5).v.c3
  have r4 := (unhide S5).v.c4
  have r5 := (unhide S5).v.c5
  have f0 := (unhide S5).v.free 0
  have f1 := (unhide S5).v.free 1
  have f2 := (unhide S5).v.free 2
  have f3 := (unhide S5).v.free 3
  have f4 := (unhide S5).v.free 4
  have f5 := (unhide S5).v.free 5
  have a0 := (unhide V5).c0
  have a1 := (unhide V5).c1
  have a2 := (unhide V5).c2
  have a3 := (unhide V5).c3
  have a4 := (unhide V5).c4
  have a5 := (unhide V5).c5
  have af0 := (unhide V5).free 0
  have af1 := (unhide V5).free 1
  have af2 := (unhide V5).free 2
  have af3 := (unhide V5).free 3
  have af4 := (unhide V5).free 4
  have af5 := (unhide V5).free 5
  rcases ho with ⟨hn, rfl, rfl⟩ | ⟨k, hk, rfl, ⟨hst, rfl⟩ | ⟨hst, rfl⟩⟩
  · have IZ := hide (show IsCancel x.b no z.b 3 from .inl ⟨hn, unhide HZ, rfl⟩)
    clear hn
    go_wp2
    refine bodyPost_ret (v := .tuple #[.agg #[.slice (some ⟨z.ga, 0, none⟩) z.b.ac.length z.ca, .slice (some ⟨z.gi, 0, none⟩) z.b.ic.length z.ci, .slice (some ⟨z.gb, 0, none⟩) z.b.bs.length z.cb, .slice (some ⟨z.gl, 0, none⟩) z.b.ls.length z.cl, .slice (some ⟨z.gt, 0, none⟩) z.b.ts.length z.ct, .int .i64 z.b.lot], .int .i64 3]) (by simp [results, Tryz.results18, go_sem, r0, r1, r2, r3, r4, r5]) rfl (.inr ⟨unhide TT, z, 3, unhide IZ, rfl, ?_, ?_⟩)
    · exact ow_six (unhide O5) (unhide F1) _ _ _ _ _ _
    · exact six (unhide S5).b (by omega) _ _ _ _ _ _
  · have IZ := hide (show IsCancel x.b no z.b 6 from .inr ⟨k, hk, .inl ⟨hst, unhide HZ, rfl⟩⟩)
    clear hk hst
    go_wp2
    refine bodyPost_ret (v := .tuple #[.agg #[.slice (some ⟨z.ga, 0, none⟩) z.b.ac.length z.ca, .slice (some ⟨z.gi, 0, none⟩) z.b.ic.length z.ci, .slice (some ⟨z.gb, 0, none⟩) z.b.bs.length z.cb, .slice (some ⟨z.gl, 0, none⟩) z.b.ls.length z.cl, .slice (some ⟨z.gt, 0, none⟩) z.b.ts.length z.ct, .int .i64 z.b.lot], .int .i64 6]) (by simp [results, Tryz.results18, go_sem, r0, r1, r2, r3, r4, r5]) rfl (.inr ⟨unhide TT, z, 6, unhide IZ, rfl, ?_, ?_⟩)
    · exact ow_six (unhide O5) (unhide F1) _ _ _ _ _ _
    · exact six (unhide S5).b (by omega) _ _ _ _ _ _
  · have IZ := hide (show IsCancel x.b no (withS z k 3).b 0 from .inr ⟨k, hk, .inr ⟨hst, by show ({ z.b with ts := setState z.b.ts k 3 } : Bk) = _; rw [unhide HZ], rfl⟩⟩)
    have t : k < z.b.ts.length := by rw [unhide LZ]; exact hk.1
    have nz : z.b.ts.length ≤ 1048576 := by rw [unhide LZ]; exact nt
    obtain ⟨d0, d1, d2, d3, d4, d5, d6, d7⟩ := (unhide O5).ot.at k t
    have d8 := (unhide O5).ot.free (k * 8 + 7)
    have gl := (unhide O5).ot.lt
    clear hk hst d0 d1 d2 d3 d4 d5 d6
    go_wp2
    refine to_wb (fun W => Box W w.heap.size (w.heap.size + 1) (.slice (some ⟨z.ga, 0, none⟩) z.b.ac.length z.ca) (.slice (some ⟨z.gi, 0, none⟩) z.b.ic.length z.ci) (.slice (some ⟨z.gb, 0, none⟩) z.b.bs.length z.cb) (.slice (some ⟨z.gl, 0, none⟩) z.b.ls.length z.cl) (.slice (some ⟨z.gt, 0, none⟩) z.b.ts.length z.ct) (.int .i64 z.b.lot) ∧ Below w.heap.size w W ∧ Ow W w.heap.size (withS z k 3)) ?_ ?_
    · exact ⟨(box_six ((unhide S5).v.kept (state_grown (unhide O5) k 3) (fun e => by injection e; omega)) _ _ _ _ _ _).1, six ((unhide S5).b.setCell (p := ⟨z.gt, k * 8 + 7, none⟩) gl.1 _) (by omega) _ _ _ _ _ _, ow_six (ow_state (unhide O5) k 3) (unhide F1) _ _ _ _ _ _⟩
    rintro W ⟨X, B, OW⟩
    have p0 := X.c0
    have p1 := X.c1
    have p2 := X.c2
    have p3 := X.c3
    have p4 := X.c4
    have p5 := X.c5
    exact bodyPost_ret (v := .tuple #[.agg #[.slice (some ⟨z.ga, 0, none⟩) z.b.ac.length z.ca, .slice (some ⟨z.gi, 0, none⟩) z.b.ic.length z.ci, .slice (some ⟨z.gb, 0, none⟩) z.b.bs.length z.cb, .slice (some ⟨z.gl, 0, none⟩) z.b.ls.length z.cl, .slice (some ⟨z.gt, 0, none⟩) z.b.ts.length z.ct, .int .i64 z.b.lot], .int .i64 0]) (by simp [results, Tryz.results18, go_sem, p0, p1, p2, p3, p4, p5]) rfl (.inr ⟨unhide TT, withS z k 3, 0, unhide IZ, by simp [set_len], OW, B⟩)
end Go.Proofs.YteooapfmiammlaaGreat.SCancel
namespace Go.Proofs.YteooapfmiammlaaGreat.IEnd
open Go.ChangeShapes Go.WideShapes Go.ChangeAt Go.RowKit BMem Bks ILists BHelp Ans ICopied ICmdB IHave SBk ITakeBk ICmdW Trd
open SIssue (posted_small posted_lot ne_true ne_false eq_true eq_false)
open IBalsFit (one_more all_one)
open Lots (Says says_of NoOk)
open Bals (T3)
open Tup8 (T8 el8)
open TBox (withS ow_state state_grown)
open ISet (SetP)
open IPlace8 (IsPlace8 StandsAt8 place_at place_none iPlace)
theorem var_state {W : World} {base g : Nat} {z : Bx} (V : Var W base g z) (O : Ow W (base + 4) z) (hg : g < base + 4) (k : Nat) (s : Int) : Var (W.setCell ⟨z.gt, k * 8 + 7, none⟩ (.int .i64 s)) base g (withS z k s) := by
  have h := Box.kept V (state_grown O k s) (fun e => by injection e; have := O.ot.lt; omega)
  unfold Var
  show Box _ base g _ _ _ _ (.slice (some ⟨z.gt, 0, none⟩) (setState z.b.ts k s).length z.ct) _
  rw [set_len]
  exact h
/-- What the end of an open trade makes of books. -/
def OpenP (b : Bk) (k : Nat) (kind way : Int) (b' : Bk) (t c : Int) : Prop :=
  (kind = 0 ∧ b' = { b with ts := setState b.ts k 3 } ∧ t = 0 ∧ c = 0) ∨
  (kind = 1 ∧ ∃ b3 ga, SetP b (el8 b.ts k) way b3 ga c ∧ (c = 0 → t = ga ∧ b' = { b3 with ts := setState b3.ts k 2 }) ∧ (c ≠ 0 → b' = b))
set_option maxRecDepth 100000 in
set_option maxHeartbeats 8000000 in
theorem iEndOpen (u : World) (z : Bx) (base g k : Nat) (kind way : Int) (ok : Ok z.b) (hk : k < z.b.ts.length) (kd : kind = 0 ∨ kind = 1) (V : Var u base g z) (O : Ow u (base + 4) z) (hg : g < base + 4) :
    Calls Tryz.prog 106 #[.pointer (some ⟨g, 0, none⟩), .pointer (some ⟨z.gt, k * 8, none⟩), .agg #[.int .i64 kind, .int .i64 way]] u (DoesW (OpenP z.b k kind way) base g u) := by
  have TO := hide (ok.1.2.2.2.2.1.2 k hk).1
  have LI := hide ok.1
  have SM := hide (ok_small ok)
  have D0 := hide ((DW.start V O (ok_small ok)).step (one_more u (.cells #[.int .i64 kind, .int .i64 way] 92)))
  have gl := (Box.lt V).2
  have bu : base + 4 ≤ u.heap.size := by have := O.oa.lt; omega
  have tl := O.ot.lt
  have w1way : (u.alloc (.cells #[.int .i64 kind, .int .i64 way] 92)).cell? ⟨u.heap.size, 1, none⟩ = some (.int .i64 way) := by simp
  have VU := hide V
  have OU := hide O
  clear ok V O
  rcases kd with rfl | rfl
  · have e7 := ((unhide D0).o.ot.at k hk).2.2.2.2.2.2.2
    have e8 := (unhide D0).o.ot.free (k * 8 + 7)
    go_enter Tryz.func106, Tryz.ntmps106
    go_wp2
    go_ret2
    exact ⟨_, 0, 0, .inl ⟨rfl, rfl, rfl, rfl⟩, rfl, .inl ⟨rfl, withS z k 3, rfl, World.ownsRow.alloc (var_state (unhide VU) (unhide OU) hg k 3) _, ow_alloc (ow_state (unhide OU) k 3) _⟩, (Frm.grown (state_grown (unhide OU) k 3) (.inr tl.1) bu).trans (Frm.below (one_more _ _) (by simpa using bu))⟩
  · go_enter Tryz.func106, Tryz.ntmps106
    go_wp2_with fail
    have z0 : u.heap.size < (u.alloc (.cells #[.int .i64 1, .int .i64 way] 92)).heap.size := by simp
    generalize u.alloc (.cells #[.int .i64 1, .int .i64 way] 92) = w1 at *
    obtain ⟨d0, d1, d2, d3, d4, d5, d6, d7⟩ := ((unhide D0).o.ot.at k hk)
    generalize hpt : el8 z.b.ts k = pt at *
    obtain ⟨n, b, s, p, q, c, r, st⟩ := pt
    have HPT := hide hpt
    clear hpt
    have D1 := hide ((unhide D0).drew)
    have K4 : w1.cell? ⟨z.gt, k * 8, none⟩ = some (.int .i64 n) ∧ w1.cell? ⟨z.gt, k * 8 + 1, none⟩ = some (.int .i64 b) ∧ w1.cell? ⟨z.gt, k * 8 + 2, none⟩ = some (.int .i64 s) ∧ w1.cell? ⟨z.gt, k * 8 + 3, none⟩ = some (.int .i64 p) ∧ w1.cell? ⟨z.gt, k * 8 + 4, none⟩ = some (.int .i64 q) ∧ w1.cell? ⟨z.gt, k * 8 + 5, none⟩ = some (.int .i64 c) ∧ w1.cell? ⟨z.gt, k * 8 + 6, none⟩ = some (.int .i64 r) ∧ w1.cell? ⟨z.gt, k * 8 + 7, none⟩ = some (.int .i64 st) ∧ w1.cell? ⟨u.heap.size, 1, none⟩ = some (.int .i64 way) := ⟨d0, d1, d2, d3, d4, d5, d6, d7, w1way⟩
    go_region_held3 (fun w' => w'.cell? ⟨z.gt, k * 8, none⟩ = some (.int .i64 n) ∧ w'.cell? ⟨z.gt, k * 8 + 1, none⟩ = some (.int .i64 b) ∧ w'.cell? ⟨z.gt, k * 8 + 2, none⟩ = some (.int .i64 s) ∧ w'.cell? ⟨z.gt, k * 8 + 3, none⟩ = some (.int .i64 p) ∧ w'.cell? ⟨z.gt, k * 8 + 4, none⟩ = some (.int .i64 q) ∧ w'.cell? ⟨z.gt, k * 8 + 5, none⟩ = some (.int .i64 c) ∧ w'.cell? ⟨z.gt, k * 8 + 6, none⟩ = some (.int .i64 r) ∧ w'.cell? ⟨z.gt, k * 8 + 7, none⟩ = some (.int .i64 st) ∧ w'.cell? ⟨u.heap.size, 1, none⟩ = some (.int .i64 way)) (first | exact K4 | exact K5)
      (first | (go_at_call 142; refine (ISet.iSettle w1.drew z base g n b s p q c r st way (unhide TO) (unhide LI) (unhide SM) (unhide D1).v (unhide D1).o hg).mono ?_; rintro e u2 ⟨b3, ga, c', hs, rfl, hz, gr⟩; have n1 : some z.gt ≠ some g := (fun e => (by injection e; omega)); have n2 : some u.heap.size ≠ some g := (fun e => (by injection e; omega)); have K5 : u2.cell? ⟨z.gt, k * 8, none⟩ = some (.int .i64 n) ∧ u2.cell? ⟨z.gt, k * 8 + 1, none⟩ = some (.int .i64 b) ∧ u2.cell? ⟨z.gt, k * 8 + 2, none⟩ = some (.int .i64 s) ∧ u2.cell? ⟨z.gt, k * 8 + 3, none⟩ = some (.int .i64 p) ∧ u2.cell? ⟨z.gt, k * 8 + 4, none⟩ = some (.int .i64 q) ∧ u2.cell? ⟨z.gt, k * 8 + 5, none⟩ = some (.int .i64 c) ∧ u2.cell? ⟨z.gt, k * 8 + 6, none⟩ = some (.int .i64 r) ∧ u2.cell? ⟨z.gt, k * 8 + 7, none⟩ = some (.int .i64 st) ∧ u2.cell? ⟨u.heap.size, 1, none⟩ = some (.int .i64 way) := ⟨gr.cell d0 n1, gr.cell d1 n1, gr.cell d2 n1, gr.cell d3 n1, gr.cell d4 n1, gr.cell d5 n1, gr.cell d6 n1, gr.cell d7 n1, gr.cell w1way n2⟩; have e7 : u2.cell? ⟨z.gt, k * 8 + 7, none⟩ = some (.int .i64 st) := gr.cell d7 n1; have HS := hide hs; have HZ := hide hz; have FR := hide ((Frm.below (g := g) (unhide D1).b bu).trans (Frm.grown gr (.inl rfl) (Nat.le_trans bu (unhide D1).b.size))); have bu2 := Nat.le_trans bu (Nat.le_trans (unhide D1).b.size gr.size); clear hs hz gr))
    clear K4 K5 d0 d1 d2 d3 d4 d5 d6 d7 w1way D0 D1
    by_cases zc : c' = 0
    · subst zc
      rcases unhide HZ with ⟨_, y, hy, vy, oy, ge, ce⟩ | ⟨hne, _⟩
      rotate_left
      · exact absurd rfl hne
      have e8 := oy.ot.free (k * 8 + 7)
      rw [ge] at e8
      have HY := hide hy
      have V1 := hide (show Var (u2.setCell ⟨z.gt, k * 8 + 7, none⟩ (.int .i64 2)) base g (withS y k 2) from by rw [← ge]; exact var_state vy oy hg k 2)
      have O1 := hide (show Ow (u2.setCell ⟨z.gt, k * 8 + 7, none⟩ (.int .i64 2)) (base + 4) (withS y k 2) from by rw [← ge]; exact ow_state oy k 2)
      have F1 := hide (show Frm u (u2.setCell ⟨z.gt, k * 8 + 7, none⟩ (.int .i64 2)) base g from (unhide FR).trans (by rw [← ge]; exact Frm.grown (state_grown oy k 2) (.inr oy.ot.lt.1) bu2))
      clear hy vy oy ge ce HZ
      go_wp2
      go_ret2
      exact ⟨_, ga, 0, .inr ⟨rfl, b3, ga, by rw [unhide HPT]; exact unhide HS, fun _ => ⟨rfl, rfl⟩, fun e => absurd rfl e⟩, rfl, .inl ⟨rfl, withS y k 2, by rw [← unhide HY], unhide V1, unhide O1⟩, unhide F1⟩
    · have zcb : (c' == 0) = false := eq_false zc
      have ZN := hide zc
      have AB := hide (show AnyBox u2 base g from by
        rcases unhide HZ with ⟨h, _⟩ | ⟨_, h⟩
        · exact absurd h zc
        · exact h)
      clear zc HZ
      go_wp2
      go_ret2
      exact ⟨z.b, ga, c', .inr ⟨rfl, b3, ga, by rw [unhide HPT]; exact unhide HS, fun e => absurd e (unhide ZN), fun _ => rfl⟩, rfl, .inr ⟨unhide ZN, unhide AB⟩, unhide FR⟩
set_option maxRecDepth 100000 in
theorem iEndEnded (u : World) (v1 v2 : Value) (kind way : Int) :
    Calls Tryz.prog 107 #[v1, v2, .agg #[.int .i64 kind, .int .i64 way]] u fun e u' => e = .returned (.tuple #[.int .i64 0, .int .i64 6]) ∧ Below u.heap.size u u' := by
  go_enter Tryz.func107, Tryz.ntmps107
  go_wp2
  go_ret2
  exact ⟨rfl, one_more _ _⟩
/-- What the end of a trade makes of books. -/
def EndP (b : Bk) (no kind way : Int) (b' : Bk) (t c : Int) : Prop :=
  (kind = 0 ∧ IsCancel b no b' c ∧ t = 0) ∨ (kind = 1 ∧ ∃ t', IsSettle b no way b' t' c ∧ (c = 0 → t = t'))
theorem end_none {b : Bk} {no kind way : Int} (kd : kind = 0 ∨ kind = 1) (h : NoneAt b.ts no) : EndP b no kind way b 0 3 := by
  rcases kd with rfl | rfl
  · exact .inl ⟨rfl, .inl ⟨h, rfl, rfl⟩, rfl⟩
  · exact .inr ⟨rfl, 0, .inl ⟨h, rfl, rfl, rfl⟩, fun _ => rfl⟩
theorem end_ended {b : Bk} {no kind way : Int} {k : Nat} (kd : kind = 0 ∨ kind = 1) (h : IsAt b.ts no k) (hs : (el8 b.ts k).2.2.2.2.2.2.2 ≠ 1) : EndP b no kind way b 0 6 := by
  rcases kd with rfl | rfl
  · exact .inl ⟨rfl, .inr ⟨k, h, .inl ⟨hs, rfl, rfl⟩⟩, rfl⟩
  · exact .inr ⟨rfl, 0, .inr ⟨k, h, .inl ⟨hs, rfl, rfl, rfl⟩⟩, fun _ => rfl⟩
theorem end_open {b b' : Bk} {no kind way t c : Int} {k : Nat} (h : IsAt b.ts no k) (hs : (el8 b.ts k).2.2.2.2.2.2.2 = 1) (o : OpenP b k kind way b' t c) : EndP b no kind way b' t c := by
  rcases o with ⟨rfl, rfl, rfl, rfl⟩ | ⟨rfl, b3, ga, hp, h1, h2⟩
  · exact .inl ⟨rfl, .inr ⟨k, h, .inr ⟨hs, rfl, rfl⟩⟩, rfl⟩
  · by_cases z : c = 0
    · subst z
      obtain ⟨rfl, rfl⟩ := h1 rfl
      exact .inr ⟨rfl, t, hp.done h hs, fun _ => rfl⟩
    · rw [h2 z]
      exact .inr ⟨rfl, 0, hp.not z h hs, fun e => absurd e z⟩
/-- The operations of the region in which a state is looked up and called. -/
abbrev oE0 : Oper := { dst := some 29, op := Go.Op.move (Go.Operand.tmp 11), type := 135, pos := "l07_trade.go:102", after := #[], guard := none }
abbrev oE1 : Oper := { dst := some 30, op := Go.Op.nilCheck (Go.Operand.tmp 29), type := 0, pos := "l07_trade.go:102", after := #[{ on := 0, ground := Go.Ground.data }], guard := none }
abbrev oE2 : Oper := { dst := some 31, op := Go.Op.fieldAddr 31 (Go.Operand.tmp 30) 7, type := 0, pos := "l07_trade.go:102", after := #[{ on := 1, ground := Go.Ground.data }], guard := none }
abbrev oE3 : Oper := { dst := some 32, op := Go.Op.load 3 (Go.Operand.tmp 31), type := 3, pos := "l07_trade.go:102", after := #[{ on := 2, ground := Go.Ground.data }], guard := none }
abbrev oE4 : Oper := { dst := some 33, op := Go.Op.indexAddr 134 (Go.Operand.tmp 10) (Go.Operand.tmp 32), type := 0, pos := "l07_trade.go:102", after := #[{ on := 3, ground := Go.Ground.data }], guard := none }
abbrev oE5 : Oper := { dst := some 34, op := Go.Op.load 132 (Go.Operand.tmp 33), type := 132, pos := "l07_trade.go:102", after := #[{ on := 4, ground := Go.Ground.data }], guard := none }
abbrev oE6 : Oper := { dst := some 35, op := Go.Op.move (Go.Operand.tmp 0), type := 82, pos := "l07_trade.go:102", after := #[], guard := none }
abbrev oE7 : Oper := { dst := some 36, op := Go.Op.move (Go.Operand.tmp 11), type := 135, pos := "l07_trade.go:102", after := #[], guard := none }
abbrev oE8 : Oper := { dst := some 37, op := Go.Op.load 92 (Go.Operand.tmp 5), type := 92, pos := "l07_trade.go:102", after := #[], guard := none }
abbrev oE9 : Oper := { dst := some 38, op := Go.Op.call { callee := Go.Callee.value (Go.Operand.tmp 34), args := #[Go.Operand.tmp 35, Go.Operand.tmp 36, Go.Operand.tmp 37], argTypes := #[82, 135, 92] }, type := 88, pos := "l07_trade.go:102", after := #[{ on := 5, ground := Go.Ground.data }, { on := 6, ground := Go.Ground.data }, { on := 7, ground := Go.Ground.data }, { on := 8, ground := Go.Ground.data }], guard := none }
abbrev oE10 : Oper := { dst := some 39, op := Go.Op.extract (Go.Operand.tmp 38) 0, type := 3, pos := "l07_trade.go:102", after := #[{ on := 9, ground := Go.Ground.data }], guard := none }
abbrev oE11 : Oper := { dst := some 40, op := Go.Op.extract (Go.Operand.tmp 38) 1, type := 3, pos := "l07_trade.go:102", after := #[{ on := 9, ground := Go.Ground.data }], guard := none }
abbrev oE12 : Oper := { dst := some 6, op := Go.Op.assign (Go.Operand.tmp 39), type := 3, pos := "l07_trade.go:102", after := #[{ on := 10, ground := Go.Ground.data }, { on := 9, ground := Go.Ground.chain }, { on := 0, ground := Go.Ground.phase }, { on := 1, ground := Go.Ground.phase }, { on := 2, ground := Go.Ground.phase }, { on := 3, ground := Go.Ground.phase }, { on := 4, ground := Go.Ground.phase }, { on := 5, ground := Go.Ground.phase }, { on := 6, ground := Go.Ground.phase }, { on := 7, ground := Go.Ground.phase }, { on := 8, ground := Go.Ground.phase }, { on := 9, ground := Go.Ground.phase }, { on := 10, ground := Go.Ground.phase }, { on := 11, ground := Go.Ground.phase }], guard := none }
abbrev oE13 : Oper := { dst := some 7, op := Go.Op.assign (Go.Operand.tmp 40), type := 3, pos := "l07_trade.go:102", after := #[{ on := 11, ground := Go.Ground.data }, { on := 12, ground := Go.Ground.chain }, { on := 0, ground := Go.Ground.phase }, { on := 1, ground := Go.Ground.phase }, { on := 2, ground := Go.Ground.phase }, { on := 3, ground := Go.Ground.phase }, { on := 4, ground := Go.Ground.phase }, { on := 5, ground := Go.Ground.phase }, { on := 6, ground := Go.Ground.phase }, { on := 7, ground := Go.Ground.phase }, { on := 8, ground := Go.Ground.phase }, { on := 9, ground := Go.Ground.phase }, { on := 10, ground := Go.Ground.phase }, { on := 11, ground := Go.Ground.phase }, { on := 12, ground := Go.Ground.phase }], guard := none }
set_option maxRecDepth 100000 in
set_option maxHeartbeats 8000000 in
theorem iEndTrade (u : World) (z : Bx) (base g : Nat) (no kind way : Int) (ok : Ok z.b) (kd : kind = 0 ∨ kind = 1) (V : Var u base g z) (O : Ow u (base + 4) z) (hg : g < base + 4) :
    Calls Tryz.prog 68 #[.pointer (some ⟨g, 0, none⟩), .int .i64 no, .agg #[.int .i64 kind, .int .i64 way]] u (DoesW (EndP z.b no kind way) base g u) := by
  have OK := hide ok
  have KD := hide kd
  have AS := hide (asc ok.1.2.2.2.2.1)
  have D0 := hide ((DW.start V O (ok_small ok)).step (one_more u (.cells #[.int .i64 kind, .int .i64 way] 92)))
  have bu : base + 4 ≤ u.heap.size := by have := O.oa.lt; omega
  have gl := (Box.lt V).2
  have nt := (unhide D0).r.nt
  have d0 := (unhide D0).v.c0
  have d1 := (unhide D0).v.c1
  have d2 := (unhide D0).v.c2
  have d3 := (unhide D0).v.c3
  have d4 := (unhide D0).v.c4
  have d5 := (unhide D0).v.c5
  have z0 : u.heap.size < (u.alloc (.cells #[.int .i64 kind, .int .i64 way] 92)).heap.size := by simp
  have b0 : (u.alloc (.cells #[.int .i64 kind, .int .i64 way] 92)).cell? ⟨u.heap.size, 0, none⟩ = some (.int .i64 kind) := by simp
  have b1 : (u.alloc (.cells #[.int .i64 kind, .int .i64 way] 92)).cell? ⟨u.heap.size, 1, none⟩ = some (.int .i64 way) := by simp
  clear ok V O kd
  go_enter Tryz.func68, Tryz.ntmps68
  go_wp2_with fail
  generalize u.alloc (.cells #[.int .i64 kind, .int .i64 way] 92) = w1 at *
  refine (iPlace _ z no (unhide D0).r AS).mono ?_
  rintro e w2 ⟨k, f, hc, hf, rfl, bb⟩
  have D2 := hide ((unhide D0).step bb)
  have c0 := (bb.cell (p := ⟨u.heap.size, 0, none⟩) z0).trans b0
  have c1 := (bb.cell (p := ⟨u.heap.size, 1, none⟩) z0).trans b1
  have z2 := Nat.lt_of_lt_of_le z0 bb.size
  clear bb d0 d1 d2 d3 d4 d5 b0 b1 z0
  cases f
  · have EN := hide (end_none (way := way) (unhide KD) (place_none hc hf (unhide AS)))
    clear hc hf
    go_wp2
    go_ret2
    exact ⟨z.b, 0, 3, unhide EN, rfl, .inr ⟨by omega, Var.any (unhide D2).v⟩, Frm.below (unhide D2).b bu⟩
  have HK := hide (place_at hc hf)
  have hk : k < z.b.ts.length := (place_at hc hf).1
  have STT := hide ((unhide OK).1.2.2.2.2.1.2 k hk).1.2.2.2.2.2.2.2.2
  clear hc hf
  have d4 := (unhide D2).v.c4
  have d7 := ((unhide D2).o.ot.at k hk).2.2.2.2.2.2.2
  obtain ⟨st, hst⟩ : ∃ st, (el8 z.b.ts k).2.2.2.2.2.2.2 = st := ⟨_, rfl⟩
  rw [hst] at d7
  have STE : st = 1 ∨ st = 2 ∨ st = 3 := by
    have := unhide STT
    rw [hst] at this
    omega
  have HST := hide hst
  clear hst STT
  have sn : ∀ (w : World) (a : Addr) (m), (store a .nilFunc m).run Tryz.prog w = stored Tryz.prog w a .nilFunc m := fun w a m => run_store Tryz.prog w a _ m rfl
  have sf : ∀ (w : World) (a : Addr) (fn : Fn) (x y : Array Value) (m), (store a (.func fn x y) m).run Tryz.prog w = stored Tryz.prog w a (.func fn x y) m := fun w a fn x y m => run_store Tryz.prog w a _ m rfl
  have g2 : g < w2.heap.size := Nat.lt_of_lt_of_le gl (unhide D2).b.size
  have t2 : z.gt < w2.heap.size := (unhide D2).o.ot.lt.2
  go_wp2_with fail
  refine SSettle.to_wc (fun W => DW u W z base g ∧ W.cell? ⟨u.heap.size, 0, none⟩ = some (.int .i64 kind) ∧ W.cell? ⟨u.heap.size, 1, none⟩ = some (.int .i64 way) ∧ W.cell? ⟨w2.heap.size, 1, none⟩ = some (.func (.func 106) #[] #[]) ∧ W.cell? ⟨w2.heap.size, 2, none⟩ = some (.func (.func 107) #[] #[]) ∧ W.cell? ⟨w2.heap.size, 3, none⟩ = some (.func (.func 107) #[] #[])) ⟨(unhide D2).step (one_more w2 _), (World.cell?_alloc_past _ _ _ z2).trans c0, (World.cell?_alloc_past _ _ _ z2).trans c1, by simp, by simp, by simp⟩ ?_
  rintro w3 ⟨D3', e0, e1, p1, p2, p3⟩
  have D3 := hide D3'
  clear D3' d4 d7 c0 c1 sn sf g2 t2
  have D3d := hide ((unhide D3).drew)
  have d7 := ((unhide D3).o.ot.at k hk).2.2.2.2.2.2.2
  rw [unhide HST] at d7
  rcases STE with rfl | rfl | rfl
  · refine wp_region_held_drew (S := (fun _ => True)) (by kernel_rfl) trivial (fun hHeld => ?_)
    refine wpAnyH_take (i := 0) (oi := oE0) (v := .pointer (some ⟨z.gt, k * 8, none⟩)) rfl (by kernel_rfl) (by kernel_rfl) (by kernel_rfl) (fun _ _ _ h => h) (Or.inl ⟨by rfl, fun w hSw => ?_⟩) hHeld ?_
    · (try dsimp only at hSw)
      unfold oE0
      go_simp
    try simp only [oE0, Act.put, List.setIfInBounds_toArray, List.set_cons_zero, List.set_cons_succ]
    refine wpAnyH_take (i := 1) (oi := oE1) (v := .pointer (some ⟨z.gt, k * 8, none⟩)) rfl (by kernel_rfl) (by kernel_rfl) (by kernel_rfl) (fun _ _ _ h => h) (Or.inl ⟨by rfl, fun w hSw => ?_⟩) hHeld ?_
    · (try dsimp only at hSw)
      unfold oE1
      go_simp
    try simp only [oE1, Act.put, List.setIfInBounds_toArray, List.set_cons_zero, List.set_cons_succ]
    refine wpAnyH_take (i := 2) (oi := oE2) (v := .pointer (some ⟨z.gt, k * 8 + 7, none⟩)) rfl (by kernel_rfl) (by kernel_rfl) (by kernel_rfl) (fun _ _ _ h => h) (Or.inl ⟨by rfl, fun w hSw => ?_⟩) hHeld ?_
    · (try dsimp only at hSw)
      unfold oE2
      go_simp
    try simp only [oE2, Act.put, List.setIfInBounds_toArray, List.set_cons_zero, List.set_cons_succ]
    refine wpAnyH_take (i := 6) (oi := oE6) (v := .pointer (some ⟨g, 0, none⟩)) rfl (by kernel_rfl) (by kernel_rfl) (by kernel_rfl) (fun _ _ _ h => h) (Or.inl ⟨by rfl, fun w hSw => ?_⟩) hHeld ?_
    · (try dsimp only at hSw)
      unfold oE6
      go_simp
    try simp only [oE6, Act.put, List.setIfInBounds_toArray, List.set_cons_zero, List.set_cons_succ]
    refine wpAnyH_take (i := 7) (oi := oE7) (v := .pointer (some ⟨z.gt, k * 8, none⟩)) rfl (by kernel_rfl) (by kernel_rfl) (by kernel_rfl) (fun _ _ _ h => h) (Or.inl ⟨by rfl, fun w hSw => ?_⟩) hHeld ?_
    · (try dsimp only at hSw)
      unfold oE7
      go_simp
    try simp only [oE7, Act.put, List.setIfInBounds_toArray, List.set_cons_zero, List.set_cons_succ]
    refine wpAnyH_ready (rs := [3, 8]) (by kernel_rfl) (by simp) ?_
    refine AllReadyH.cons (o := oE3) rfl (fun K hK => ?_) (AllReadyH.cons (o := oE8) rfl (fun K hK => ?_) AllReadyH.nil)
    · unfold oE3
      go_simp
      refine hK.out _ _ trivial (fun hHeld => ?_)
      clear hK K
      try simp only [oE3, Act.put, List.setIfInBounds_toArray, List.set_cons_zero, List.set_cons_succ]
      refine wpAnyH_take (i := 4) (oi := oE4) (v := .pointer (some ⟨w2.heap.size, 1, none⟩)) rfl (by kernel_rfl) (by kernel_rfl) (by kernel_rfl) (fun _ _ _ h => h) (Or.inl ⟨by rfl, fun w hSw => ?_⟩) hHeld ?_
      · (try dsimp only at hSw)
        unfold oE4
        go_simp
      try simp only [oE4, Act.put, List.setIfInBounds_toArray, List.set_cons_zero, List.set_cons_succ]
      refine wpAnyH_ready (rs := [5, 8]) (by kernel_rfl) (by simp) ?_
      refine AllReadyH.cons (o := oE5) rfl (fun K hK => ?_) (AllReadyH.cons (o := oE8) rfl (fun K hK => ?_) AllReadyH.nil)
      · unfold oE5
        go_simp
        refine hK.out _ _ trivial (fun hHeld => ?_)
        clear hK K
        try simp only [oE5, Act.put, List.setIfInBounds_toArray, List.set_cons_zero, List.set_cons_succ]
        refine wpAnyH_ready (rs := [8]) (by kernel_rfl) (by simp) ?_
        refine AllReadyH.cons (o := oE8) rfl (fun K hK => ?_) AllReadyH.nil
        unfold oE8
        go_simp
        refine hK.out _ _ trivial (fun hHeld => ?_)
        clear hK K
        try simp only [oE8, Act.put, List.setIfInBounds_toArray, List.set_cons_zero, List.set_cons_succ]
        refine wpAnyH_ready (rs := [9]) (by kernel_rfl) (by simp) ?_
        refine AllReadyH.cons (o := oE9) rfl (fun K hK => ?_) AllReadyH.nil
        unfold oE9
        go_simp
        refine (iEndOpen w3.drew z base g k kind way (unhide OK) hk (unhide KD) (unhide D3d).v (unhide D3d).o hg).mono ?_
        rintro e u4 ⟨b', t, c, hp, rfl, hz, fr⟩
        have HP := hide (end_open (unhide HK) (unhide HST) hp)
        have HZ := hide hz
        have FR := hide ((Frm.below (g := g) (unhide D3d).b bu).trans fr)
        clear hp hz fr
        go_wp2_with fail
        refine hK.out _ _ trivial (fun hHeld => ?_)
        clear hK K
        try simp only [oE9, Act.put, List.setIfInBounds_toArray, List.set_cons_zero, List.set_cons_succ]
        refine wpAnyH_take (i := 10) (oi := oE10) (v := .int .i64 t) rfl (by kernel_rfl) (by kernel_rfl) (by kernel_rfl) (fun _ _ _ h => h) (Or.inl ⟨by rfl, fun w hSw => ?_⟩) hHeld ?_
        · (try dsimp only at hSw)
          unfold oE10
          go_simp
        try simp only [oE10, Act.put, List.setIfInBounds_toArray, List.set_cons_zero, List.set_cons_succ]
        refine wpAnyH_take (i := 11) (oi := oE11) (v := .int .i64 c) rfl (by kernel_rfl) (by kernel_rfl) (by kernel_rfl) (fun _ _ _ h => h) (Or.inl ⟨by rfl, fun w hSw => ?_⟩) hHeld ?_
        · (try dsimp only at hSw)
          unfold oE11
          go_simp
        try simp only [oE11, Act.put, List.setIfInBounds_toArray, List.set_cons_zero, List.set_cons_succ]
        refine wpAnyH_take (i := 12) (oi := oE12) (v := .int .i64 t) rfl (by kernel_rfl) (by kernel_rfl) (by kernel_rfl) (fun _ _ _ h => h) (Or.inl ⟨by rfl, fun w hSw => ?_⟩) hHeld ?_
        · (try dsimp only at hSw)
          unfold oE12
          go_simp
        try simp only [oE12, Act.put, List.setIfInBounds_toArray, List.set_cons_zero, List.set_cons_succ]
        refine wpAnyH_take (i := 13) (oi := oE13) (v := .int .i64 c) rfl (by kernel_rfl) (by kernel_rfl) (by kernel_rfl) (fun _ _ _ h => h) (Or.inl ⟨by rfl, fun w hSw => ?_⟩) hHeld ?_
        · (try dsimp only at hSw)
          unfold oE13
          go_simp
        try simp only [oE13, Act.put, List.setIfInBounds_toArray, List.set_cons_zero, List.set_cons_succ]
        refine wpAnyH_done (by kernel_rfl) ?_ _
        go_wp2
        go_ret2
        exact ⟨b', t, c, unhide HP, rfl, unhide HZ, unhide FR⟩
      · unfold oE8
        go_simp
        refine hK.out _ _ trivial (fun hHeld => ?_)
        clear hK K
        try simp only [oE8, Act.put, List.setIfInBounds_toArray, List.set_cons_zero, List.set_cons_succ]
        refine wpAnyH_ready (rs := [5]) (by kernel_rfl) (by simp) ?_
        refine AllReadyH.cons (o := oE5) rfl (fun K hK => ?_) AllReadyH.nil
        unfold oE5
        go_simp
        refine hK.out _ _ trivial (fun hHeld => ?_)
        clear hK K
        try simp only [oE5, Act.put, List.setIfInBounds_toArray, List.set_cons_zero, List.set_cons_succ]
        refine wpAnyH_ready (rs := [9]) (by kernel_rfl) (by simp) ?_
        refine AllReadyH.cons (o := oE9) rfl (fun K hK => ?_) AllReadyH.nil
        unfold oE9
        go_simp
        refine (iEndOpen w3.drew z base g k kind way (unhide OK) hk (unhide KD) (unhide D3d).v (unhide D3d).o hg).mono ?_
        rintro e u4 ⟨b', t, c, hp, rfl, hz, fr⟩
        have HP := hide (end_open (unhide HK) (unhide HST) hp)
        have HZ := hide hz
        have FR := hide ((Frm.below (g := g) (unhide D3d).b bu).trans fr)
        clear hp hz fr
        go_wp2_with fail
        refine hK.out _ _ trivial (fun hHeld => ?_)
        clear hK K
        try simp only [oE9, Act.put, List.setIfInBounds_toArray, List.set_cons_zero, List.set_cons_succ]
        refine wpAnyH_take (i := 10) (oi := oE10) (v := .int .i64 t) rfl (by kernel_rfl) (by kernel_rfl) (by kernel_rfl) (fun _ _ _ h => h) (Or.inl ⟨by rfl, fun w hSw => ?_⟩) hHeld ?_
        · (try dsimp only at hSw)
          unfold oE10
          go_simp
        try simp only [oE10, Act.put, List.setIfInBounds_toArray, List.set_cons_zero, List.set_cons_succ]
        refine wpAnyH_take (i := 11) (oi := oE11) (v := .int .i64 c) rfl (by kernel_rfl) (by kernel_rfl) (by kernel_rfl) (fun _ _ _ h => h) (Or.inl ⟨by rfl, fun w hSw => ?_⟩) hHeld ?_
        · (try dsimp only at hSw)
          unfold oE11
          go_simp
        try simp only [oE11, Act.put, List.setIfInBounds_toArray, List.set_cons_zero, List.set_cons_succ]
        refine wpAnyH_take (i := 12) (oi := oE12) (v := .int .i64 t) rfl (by kernel_rfl) (by kernel_rfl) (by kernel_rfl) (fun _ _ _ h => h) (Or.inl ⟨by rfl, fun w hSw => ?_⟩) hHeld ?_
        · (try dsimp only at hSw)
          unfold oE12
          go_simp
        try simp only [oE12, Act.put, List.setIfInBounds_toArray, List.set_cons_zero, List.set_cons_succ]
        refine wpAnyH_take (i := 13) (oi := oE13) (v := .int .i64 c) rfl (by kernel_rfl) (by kernel_rfl) (by kernel_rfl) (fun _ _ _ h => h) (Or.inl ⟨by rfl, fun w hSw => ?_⟩) hHeld ?_
        · (try dsimp only at hSw)
          unfold oE13
          go_simp
        try simp only [oE13, Act.put, List.setIfInBounds_toArray, List.set_cons_zero, List.set_cons_succ]
        refine wpAnyH_done (by kernel_rfl) ?_ _
        go_wp2
        go_ret2
        exact ⟨b', t, c, unhide HP, rfl, unhide HZ, unhide FR⟩
    · unfold oE8
      go_simp
      refine hK.out _ _ trivial (fun hHeld => ?_)
      clear hK K
      try simp only [oE8, Act.put, List.setIfInBounds_toArray, List.set_cons_zero, List.set_cons_succ]
      refine wpAnyH_ready (rs := [3]) (by kernel_rfl) (by simp) ?_
      refine AllReadyH.cons (o := oE3) rfl (fun K hK => ?_) AllReadyH.nil
      unfold oE3
      go_simp
      refine hK.out _ _ trivial (fun hHeld => ?_)
      clear hK K
      try simp only [oE3, Act.put, List.setIfInBounds_toArray, List.set_cons_zero, List.set_cons_succ]
      refine wpAnyH_take (i := 4) (oi := oE4) (v := .pointer (some ⟨w2.heap.size, 1, none⟩)) rfl (by kernel_rfl) (by kernel_rfl) (by kernel_rfl) (fun _ _ _ h => h) (Or.inl ⟨by rfl, fun w hSw => ?_⟩) hHeld ?_
      · (try dsimp only at hSw)
        unfold oE4
        go_simp
      try simp only [oE4, Act.put, List.setIfInBounds_toArray, List.set_cons_zero, List.set_cons_succ]
      refine wpAnyH_ready (rs := [5]) (by kernel_rfl) (by simp) ?_
      refine AllReadyH.cons (o := oE5) rfl (fun K hK => ?_) AllReadyH.nil
      unfold oE5
      go_simp
      refine hK.out _ _ trivial (fun hHeld => ?_)
      clear hK K
      try simp only [oE5, Act.put, List.setIfInBounds_toArray, List.set_cons_zero, List.set_cons_succ]
      refine wpAnyH_ready (rs := [9]) (by kernel_rfl) (by simp) ?_
      refine AllReadyH.cons (o := oE9) rfl (fun K hK => ?_) AllReadyH.nil
      unfold oE9
      go_simp
      refine (iEndOpen w3.drew z base g k kind way (unhide OK) hk (unhide KD) (unhide D3d).v (unhide D3d).o hg).mono ?_
      rintro e u4 ⟨b', t, c, hp, rfl, hz, fr⟩
      have HP := hide (end_open (unhide HK) (unhide HST) hp)
      have HZ := hide hz
      have FR := hide ((Frm.below (g := g) (unhide D3d).b bu).trans fr)
      clear hp hz fr
      go_wp2_with fail
      refine hK.out _ _ trivial (fun hHeld => ?_)
      clear hK K
      try simp only [oE9, Act.put, List.setIfInBounds_toArray, List.set_cons_zero, List.set_cons_succ]
      refine wpAnyH_take (i := 10) (oi := oE10) (v := .int .i64 t) rfl (by kernel_rfl) (by kernel_rfl) (by kernel_rfl) (fun _ _ _ h => h) (Or.inl ⟨by rfl, fun w hSw => ?_⟩) hHeld ?_
      · (try dsimp only at hSw)
        unfold oE10
        go_simp
      try simp only [oE10, Act.put, List.setIfInBounds_toArray, List.set_cons_zero, List.set_cons_succ]
      refine wpAnyH_take (i := 11) (oi := oE11) (v := .int .i64 c) rfl (by kernel_rfl) (by kernel_rfl) (by kernel_rfl) (fun _ _ _ h => h) (Or.inl ⟨by rfl, fun w hSw => ?_⟩) hHeld ?_
      · (try dsimp only at hSw)
        unfold oE11
        go_simp
      try simp only [oE11, Act.put, List.setIfInBounds_toArray, List.set_cons_zero, List.set_cons_succ]
      refine wpAnyH_take (i := 12) (oi := oE12) (v := .int .i64 t) rfl (by kernel_rfl) (by kernel_rfl) (by kernel_rfl) (fun _ _ _ h => h) (Or.inl ⟨by rfl, fun w hSw => ?_⟩) hHeld ?_
      · (try dsimp only at hSw)
        unfold oE12
        go_simp
      try simp only [oE12, Act.put, List.setIfInBounds_toArray, List.set_cons_zero, List.set_cons_succ]
      refine wpAnyH_take (i := 13) (oi := oE13) (v := .int .i64 c) rfl (by kernel_rfl) (by kernel_rfl) (by kernel_rfl) (fun _ _ _ h => h) (Or.inl ⟨by rfl, fun w hSw => ?_⟩) hHeld ?_
      · (try dsimp only at hSw)
        unfold oE13
        go_simp
      try simp only [oE13, Act.put, List.setIfInBounds_toArray, List.set_cons_zero, List.set_cons_succ]
      refine wpAnyH_done (by kernel_rfl) ?_ _
      go_wp2
      go_ret2
      exact ⟨b', t, c, unhide HP, rfl, unhide HZ, unhide FR⟩
  · have EE := hide (end_ended (way := way) (unhide KD) (unhide HK) (by rw [unhide HST]; decide))
    refine wp_region_held_drew (S := (fun _ => True)) (by kernel_rfl) trivial (fun hHeld => ?_)
    refine wpAnyH_take (i := 0) (oi := oE0) (v := .pointer (some ⟨z.gt, k * 8, none⟩)) rfl (by kernel_rfl) (by kernel_rfl) (by kernel_rfl) (fun _ _ _ h => h) (Or.inl ⟨by rfl, fun w hSw => ?_⟩) hHeld ?_
    · (try dsimp only at hSw)
      unfold oE0
      go_simp
    try simp only [oE0, Act.put, List.setIfInBounds_toArray, List.set_cons_zero, List.set_cons_succ]
    refine wpAnyH_take (i := 1) (oi := oE1) (v := .pointer (some ⟨z.gt, k * 8, none⟩)) rfl (by kernel_rfl) (by kernel_rfl) (by kernel_rfl) (fun _ _ _ h => h) (Or.inl ⟨by rfl, fun w hSw => ?_⟩) hHeld ?_
    · (try dsimp only at hSw)
      unfold oE1
      go_simp
    try simp only [oE1, Act.put, List.setIfInBounds_toArray, List.set_cons_zero, List.set_cons_succ]
    refine wpAnyH_take (i := 2) (oi := oE2) (v := .pointer (some ⟨z.gt, k * 8 + 7, none⟩)) rfl (by kernel_rfl) (by kernel_rfl) (by kernel_rfl) (fun _ _ _ h => h) (Or.inl ⟨by rfl, fun w hSw => ?_⟩) hHeld ?_
    · (try dsimp only at hSw)
      unfold oE2
      go_simp
    try simp only [oE2, Act.put, List.setIfInBounds_toArray, List.set_cons_zero, List.set_cons_succ]
    refine wpAnyH_take (i := 6) (oi := oE6) (v := .pointer (some ⟨g, 0, none⟩)) rfl (by kernel_rfl) (by kernel_rfl) (by kernel_rfl) (fun _ _ _ h => h) (Or.inl ⟨by rfl, fun w hSw => ?_⟩) hHeld ?_
    · (try dsimp only at hSw)
      unfold oE6
      go_simp
    try simp only [oE6, Act.put, List.setIfInBounds_toArray, List.set_cons_zero, List.set_cons_succ]
    refine wpAnyH_take (i := 7) (oi := oE7) (v := .pointer (some ⟨z.gt, k * 8, none⟩)) rfl (by kernel_rfl) (by kernel_rfl) (by kernel_rfl) (fun _ _ _ h => h) (Or.inl ⟨by rfl, fun w hSw => ?_⟩) hHeld ?_
    · (try dsimp only at hSw)
      unfold oE7
      go_simp
    try simp only [oE7, Act.put, List.setIfInBounds_toArray, List.set_cons_zero, List.set_cons_succ]
    refine wpAnyH_ready (rs := [3, 8]) (by kernel_rfl) (by simp) ?_
    refine AllReadyH.cons (o := oE3) rfl (fun K hK => ?_) (AllReadyH.cons (o := oE8) rfl (fun K hK => ?_) AllReadyH.nil)
    · unfold oE3
      go_simp
      refine hK.out _ _ trivial (fun hHeld => ?_)
      clear hK K
      try simp only [oE3, Act.put, List.setIfInBounds_toArray, List.set_cons_zero, List.set_cons_succ]
      refine wpAnyH_take (i := 4) (oi := oE4) (v := .pointer (some ⟨w2.heap.size, 2, none⟩)) rfl (by kernel_rfl) (by kernel_rfl) (by kernel_rfl) (fun _ _ _ h => h) (Or.inl ⟨by rfl, fun w hSw => ?_⟩) hHeld ?_
      · (try dsimp only at hSw)
        unfold oE4
        go_simp
      try simp only [oE4, Act.put, List.setIfInBounds_toArray, List.set_cons_zero, List.set_cons_succ]
      refine wpAnyH_ready (rs := [5, 8]) (by kernel_rfl) (by simp) ?_
      refine AllReadyH.cons (o := oE5) rfl (fun K hK => ?_) (AllReadyH.cons (o := oE8) rfl (fun K hK => ?_) AllReadyH.nil)
      · unfold oE5
        go_simp
        refine hK.out _ _ trivial (fun hHeld => ?_)
        clear hK K
        try simp only [oE5, Act.put, List.setIfInBounds_toArray, List.set_cons_zero, List.set_cons_succ]
        refine wpAnyH_ready (rs := [8]) (by kernel_rfl) (by simp) ?_
        refine AllReadyH.cons (o := oE8) rfl (fun K hK => ?_) AllReadyH.nil
        unfold oE8
        go_simp
        refine hK.out _ _ trivial (fun hHeld => ?_)
        clear hK K
        try simp only [oE8, Act.put, List.setIfInBounds_toArray, List.set_cons_zero, List.set_cons_succ]
        refine wpAnyH_ready (rs := [9]) (by kernel_rfl) (by simp) ?_
        refine AllReadyH.cons (o := oE9) rfl (fun K hK => ?_) AllReadyH.nil
        unfold oE9
        go_simp
        refine (iEndEnded w3.drew _ _ kind way).mono ?_
        rintro e u4 ⟨rfl, bb⟩
        have D4 := hide ((unhide D3d).step bb)
        clear bb
        go_wp2_with fail
        refine hK.out _ _ trivial (fun hHeld => ?_)
        clear hK K
        try simp only [oE9, Act.put, List.setIfInBounds_toArray, List.set_cons_zero, List.set_cons_succ]
        refine wpAnyH_take (i := 10) (oi := oE10) (v := .int .i64 0) rfl (by kernel_rfl) (by kernel_rfl) (by kernel_rfl) (fun _ _ _ h => h) (Or.inl ⟨by rfl, fun w hSw => ?_⟩) hHeld ?_
        · (try dsimp only at hSw)
          unfold oE10
          go_simp
        try simp only [oE10, Act.put, List.setIfInBounds_toArray, List.set_cons_zero, List.set_cons_succ]
        refine wpAnyH_take (i := 11) (oi := oE11) (v := .int .i64 6) rfl (by kernel_rfl) (by kernel_rfl) (by kernel_rfl) (fun _ _ _ h => h) (Or.inl ⟨by rfl, fun w hSw => ?_⟩) hHeld ?_
        · (try dsimp only at hSw)
          unfold oE11
          go_simp
        try simp only [oE11, Act.put, List.setIfInBounds_toArray, List.set_cons_zero, List.set_cons_succ]
        refine wpAnyH_take (i := 12) (oi := oE12) (v := .int .i64 0) rfl (by kernel_rfl) (by kernel_rfl) (by kernel_rfl) (fun _ _ _ h => h) (Or.inl ⟨by rfl, fun w hSw => ?_⟩) hHeld ?_
        · (try dsimp only at hSw)
          unfold oE12
          go_simp
        try simp only [oE12, Act.put, List.setIfInBounds_toArray, List.set_cons_zero, List.set_cons_succ]
        refine wpAnyH_take (i := 13) (oi := oE13) (v := .int .i64 6) rfl (by kernel_rfl) (by kernel_rfl) (by kernel_rfl) (fun _ _ _ h => h) (Or.inl ⟨by rfl, fun w hSw => ?_⟩) hHeld ?_
        · (try dsimp only at hSw)
          unfold oE13
          go_simp
        try simp only [oE13, Act.put, List.setIfInBounds_toArray, List.set_cons_zero, List.set_cons_succ]
        refine wpAnyH_done (by kernel_rfl) ?_ _
        go_wp2
        go_ret2
        exact ⟨z.b, 0, 6, unhide EE, rfl, .inr ⟨by omega, Var.any (unhide D4).v⟩, Frm.below (unhide D4).b bu⟩
      · unfold oE8
        go_simp
        refine hK.out _ _ trivial (fun hHeld => ?_)
        clear hK K
        try simp only [oE8, Act.put, List.setIfInBounds_toArray, List.set_cons_zero, List.set_cons_succ]
        refine wpAnyH_ready (rs := [5]) (by kernel_rfl) (by simp) ?_
        refine AllReadyH.cons (o := oE5) rfl (fun K hK => ?_) AllReadyH.nil
        unfold oE5
        go_simp
        refine hK.out _ _ trivial (fun hHeld => ?_)
        clear hK K
        try simp only [oE5, Act.put, List.setIfInBounds_toArray, List.set_cons_zero, List.set_cons_succ]
        refine wpAnyH_ready (rs := [9]) (by kernel_rfl) (by simp) ?_
        refine AllReadyH.cons (o := oE9) rfl (fun K hK => ?_) AllReadyH.nil
        unfold oE9
        go_simp
        refine (iEndEnded w3.drew _ _ kind way).mono ?_
        rintro e u4 ⟨rfl, bb⟩
        have D4 := hide ((unhide D3d).step bb)
        clear bb
        go_wp2_with fail
        refine hK.out _ _ trivial (fun hHeld => ?_)
        clear hK K
        try simp only [oE9, Act.put, List.setIfInBounds_toArray, List.set_cons_zero, List.set_cons_succ]
        refine wpAnyH_take (i := 10) (oi := oE10) (v := .int .i64 0) rfl (by kernel_rfl) (by kernel_rfl) (by kernel_rfl) (fun _ _ _ h => h) (Or.inl ⟨by rfl, fun w hSw => ?_⟩) hHeld ?_
        · (try dsimp only at hSw)
          unfold oE10
          go_simp
        try simp only [oE10, Act.put, List.setIfInBounds_toArray, List.set_cons_zero, List.set_cons_succ]
        refine wpAnyH_take (i := 11) (oi := oE11) (v := .int .i64 6) rfl (by kernel_rfl) (by kernel_rfl) (by kernel_rfl) (fun _ _ _ h => h) (Or.inl ⟨by rfl, fun w hSw => ?_⟩) hHeld ?_
        · (try dsimp only at hSw)
          unfold oE11
          go_simp
        try simp only [oE11, Act.put, List.setIfInBounds_toArray, List.set_cons_zero, List.set_cons_succ]
        refine wpAnyH_take (i := 12) (oi := oE12) (v := .int .i64 0) rfl (by kernel_rfl) (by kernel_rfl) (by kernel_rfl) (fun _ _ _ h => h) (Or.inl ⟨by rfl, fun w hSw => ?_⟩) hHeld ?_
        · (try dsimp only at hSw)
          unfold oE12
          go_simp
        try simp only [oE12, Act.put, List.setIfInBounds_toArray, List.set_cons_zero, List.set_cons_succ]
        refine wpAnyH_take (i := 13) (oi := oE13) (v := .int .i64 6) rfl (by kernel_rfl) (by kernel_rfl) (by kernel_rfl) (fun _ _ _ h => h) (Or.inl ⟨by rfl, fun w hSw => ?_⟩) hHeld ?_
        · (try dsimp only at hSw)
          unfold oE13
          go_simp
        try simp only [oE13, Act.put, List.setIfInBounds_toArray, List.set_cons_zero, List.set_cons_succ]
        refine wpAnyH_done (by kernel_rfl) ?_ _
        go_wp2
        go_ret2
        exact ⟨z.b, 0, 6, unhide EE, rfl, .inr ⟨by omega, Var.any (unhide D4).v⟩, Frm.below (unhide D4).b bu⟩
    · unfold oE8
      go_simp
      refine hK.out _ _ trivial (fun hHeld => ?_)
      clear hK K
      try simp only [oE8, Act.put, List.setIfInBounds_toArray, List.set_cons_zero, List.set_cons_succ]
      refine wpAnyH_ready (rs := [3]) (by kernel_rfl) (by simp) ?_
      refine AllReadyH.cons (o := oE3) rfl (fun K hK => ?_) AllReadyH.nil
      unfold oE3
      go_simp
      refine hK.out _ _ trivial (fun hHeld => ?_)
      clear hK K
      try simp only [oE3, Act.put, List.setIfInBounds_toArray, List.set_cons_zero, List.set_cons_succ]
      refine wpAnyH_take (i := 4) (oi := oE4) (v := .pointer (some ⟨w2.heap.size, 2, none⟩)) rfl (by kernel_rfl) (by kernel_rfl) (by kernel_rfl) (fun _ _ _ h => h) (Or.inl ⟨by rfl, fun w hSw => ?_⟩) hHeld ?_
      · (try dsimp only at hSw)
        unfold oE4
        go_simp
      try simp only [oE4, Act.put, List.setIfInBounds_toArray, List.set_cons_zero, List.set_cons_succ]
      refine wpAnyH_ready (rs := [5]) (by kernel_rfl) (by simp) ?_
      refine AllReadyH.cons (o := oE5) rfl (fun K hK => ?_) AllReadyH.nil
      unfold oE5
      go_simp
      refine hK.out _ _ trivial (fun hHeld => ?_)
      clear hK K
      try simp only [oE5, Act.put, List.setIfInBounds_toArray, List.set_cons_zero, List.set_cons_succ]
      refine wpAnyH_ready (rs := [9]) (by kernel_rfl) (by simp) ?_
      refine AllReadyH.cons (o := oE9) rfl (fun K hK => ?_) AllReadyH.nil
      unfold oE9
      go_simp
      refine (iEndEnded w3.drew _ _ kind way).mono ?_
      rintro e u4 ⟨rfl, bb⟩
      have D4 := hide ((unhide D3d).step bb)
      clear bb
      go_wp2_with fail
      refine hK.out _ _ trivial (fun hHeld => ?_)
      clear hK K
      try simp only [oE9, Act.put, List.setIfInBounds_toArray, List.set_cons_zero, List.set_cons_succ]
      refine wpAnyH_take (i := 10) (oi := oE10) (v := .int .i64 0) rfl (by kernel_rfl) (by kernel_rfl) (by kernel_rfl) (fun _ _ _ h => h) (Or.inl ⟨by rfl, fun w hSw => ?_⟩) hHeld ?_
      · (try dsimp only at hSw)
        unfold oE10
        go_simp
      try simp only [oE10, Act.put, List.setIfInBounds_toArray, List.set_cons_zero, List.set_cons_succ]
      refine wpAnyH_take (i := 11) (oi := oE11) (v := .int .i64 6) rfl (by kernel_rfl) (by kernel_rfl) (by kernel_rfl) (fun _ _ _ h => h) (Or.inl ⟨by rfl, fun w hSw => ?_⟩) hHeld ?_
      · (try dsimp only at hSw)
        unfold oE11
        go_simp
      try simp only [oE11, Act.put, List.setIfInBounds_toArray, List.set_cons_zero, List.set_cons_succ]
      refine wpAnyH_take (i := 12) (oi := oE12) (v := .int .i64 0) rfl (by kernel_rfl) (by kernel_rfl) (by kernel_rfl) (fun _ _ _ h => h) (Or.inl ⟨by rfl, fun w hSw => ?_⟩) hHeld ?_
      · (try dsimp only at hSw)
        unfold oE12
        go_simp
      try simp only [oE12, Act.put, List.setIfInBounds_toArray, List.set_cons_zero, List.set_cons_succ]
      refine wpAnyH_take (i := 13) (oi := oE13) (v := .int .i64 6) rfl (by kernel_rfl) (by kernel_rfl) (by kernel_rfl) (fun _ _ _ h => h) (Or.inl ⟨by rfl, fun w hSw => ?_⟩) hHeld ?_
      · (try dsimp only at hSw)
        unfold oE13
        go_simp
      try simp only [oE13, Act.put, List.setIfInBounds_toArray, List.set_cons_zero, List.set_cons_succ]
      refine wpAnyH_done (by kernel_rfl) ?_ _
      go_wp2
      go_ret2
      exact ⟨z.b, 0, 6, unhide EE, rfl, .inr ⟨by omega, Var.any (unhide D4).v⟩, Frm.below (unhide D4).b bu⟩
  · have EE := hide (end_ended (way := way) (unhide KD) (unhide HK) (by rw [unhide HST]; decide))
    refine wp_region_held_drew (S := (fun _ => True)) (by kernel_rfl) trivial (fun hHeld => ?_)
    refine wpAnyH_take (i := 0) (oi := oE0) (v := .pointer (some ⟨z.gt, k * 8, none⟩)) rfl (by kernel_rfl) (by kernel_rfl) (by kernel_rfl) (fun _ _ _ h => h) (Or.inl ⟨by rfl, fun w hSw => ?_⟩) hHeld ?_
    · (try dsimp only at hSw)
      unfold oE0
      go_simp
    try simp only [oE0, Act.put, List.setIfInBounds_toArray, List.set_cons_zero, List.set_cons_succ]
    refine wpAnyH_take (i := 1) (oi := oE1) (v := .pointer (some ⟨z.gt, k * 8, none⟩)) rfl (by kernel_rfl) (by kernel_rfl) (by kernel_rfl) (fun _ _ _ h => h) (Or.inl ⟨by rfl, fun w hSw => ?_⟩) hHeld ?_
    · (try dsimp only at hSw)
      unfold oE1
      go_simp
    try simp only [oE1, Act.put, List.setIfInBounds_toArray, List.set_cons_zero, List.set_cons_succ]
    refine wpAnyH_take (i := 2) (oi := oE2) (v := .pointer (some ⟨z.gt, k * 8 + 7, none⟩)) rfl (by kernel_rfl) (by kernel_rfl) (by kernel_rfl) (fun _ _ _ h => h) (Or.inl ⟨by rfl, fun w hSw => ?_⟩) hHeld ?_
    · (try dsimp only at hSw)
      unfold oE2
      go_simp
    try simp only [oE2, Act.put, List.setIfInBounds_toArray, List.set_cons_zero, List.set_cons_succ]
    refine wpAnyH_take (i := 6) (oi := oE6) (v := .pointer (some ⟨g, 0, none⟩)) rfl (by kernel_rfl) (by kernel_rfl) (by kernel_rfl) (fun _ _ _ h => h) (Or.inl ⟨by rfl, fun w hSw => ?_⟩) hHeld ?_
    · (try dsimp only at hSw)
      unfold oE6
      go_simp
    try simp only [oE6, Act.put, List.setIfInBounds_toArray, List.set_cons_zero, List.set_cons_succ]
    refine wpAnyH_take (i := 7) (oi := oE7) (v := .pointer (some ⟨z.gt, k * 8, none⟩)) rfl (by kernel_rfl) (by kernel_rfl) (by kernel_rfl) (fun _ _ _ h => h) (Or.inl ⟨by rfl, fun w hSw => ?_⟩) hHeld ?_
    · (try dsimp only at hSw)
      unfold oE7
      go_simp
    try simp only [oE7, Act.put, List.setIfInBounds_toArray, List.set_cons_zero, List.set_cons_succ]
    refine wpAnyH_ready (rs := [3, 8]) (by kernel_rfl) (by simp) ?_
    refine AllReadyH.cons (o := oE3) rfl (fun K hK => ?_) (AllReadyH.cons (o := oE8) rfl (fun K hK => ?_) AllReadyH.nil)
    · unfold oE3
      go_simp
      refine hK.out _ _ trivial (fun hHeld => ?_)
      clear hK K
      try simp only [oE3, Act.put, List.setIfInBounds_toArray, List.set_cons_zero, List.set_cons_succ]
      refine wpAnyH_take (i := 4) (oi := oE4) (v := .pointer (some ⟨w2.heap.size, 3, none⟩)) rfl (by kernel_rfl) (by kernel_rfl) (by kernel_rfl) (fun _ _ _ h => h) (Or.inl ⟨by rfl, fun w hSw => ?_⟩) hHeld ?_
      · (try dsimp only at hSw)
        unfold oE4
        go_simp
      try simp only [oE4, Act.put, List.setIfInBounds_toArray, List.set_cons_zero, List.set_cons_succ]
      refine wpAnyH_ready (rs := [5, 8]) (by kernel_rfl) (by simp) ?_
      refine AllReadyH.cons (o := oE5) rfl (fun K hK => ?_) (AllReadyH.cons (o := oE8) rfl (fun K hK => ?_) AllReadyH.nil)
      · unfold oE5
        go_simp
        refine hK.out _ _ trivial (fun hHeld => ?_)
        clear hK K
        try simp only [oE5, Act.put, List.setIfInBounds_toArray, List.set_cons_zero, List.set_cons_succ]
        refine wpAnyH_ready (rs := [8]) (by kernel_rfl) (by simp) ?_
        refine AllReadyH.cons (o := oE8) rfl (fun K hK => ?_) AllReadyH.nil
        unfold oE8
        go_simp
        refine hK.out _ _ trivial (fun hHeld => ?_)
        clear hK K
        try simp only [oE8, Act.put, List.setIfInBounds_toArray, List.set_cons_zero, List.set_cons_succ]
        refine wpAnyH_ready (rs := [9]) (by kernel_rfl) (by simp) ?_
        refine AllReadyH.cons (o := oE9) rfl (fun K hK => ?_) AllReadyH.nil
        unfold oE9
        go_simp
        refine (iEndEnded w3.drew _ _ kind way).mono ?_
        rintro e u4 ⟨rfl, bb⟩
        have D4 := hide ((unhide D3d).step bb)
        clear bb
        go_wp2_with fail
        refine hK.out _ _ trivial (fun hHeld => ?_)
        clear hK K
        try simp only [oE9, Act.put, List.setIfInBounds_toArray, List.set_cons_zero, List.set_cons_succ]
        refine wpAnyH_take (i := 10) (oi := oE10) (v := .int .i64 0) rfl (by kernel_rfl) (by kernel_rfl) (by kernel_rfl) (fun _ _ _ h => h) (Or.inl ⟨by rfl, fun w hSw => ?_⟩) hHeld ?_
        · (try dsimp only at hSw)
          unfold oE10
          go_simp
        try simp only [oE10, Act.put, List.setIfInBounds_toArray, List.set_cons_zero, List.set_cons_succ]
        refine wpAnyH_take (i := 11) (oi := oE11) (v := .int .i64 6) rfl (by kernel_rfl) (by kernel_rfl) (by kernel_rfl) (fun _ _ _ h => h) (Or.inl ⟨by rfl, fun w hSw => ?_⟩) hHeld ?_
        · (try dsimp only at hSw)
          unfold oE11
          go_simp
        try simp only [oE11, Act.put, List.setIfInBounds_toArray, List.set_cons_zero, List.set_cons_succ]
        refine wpAnyH_take (i := 12) (oi := oE12) (v := .int .i64 0) rfl (by kernel_rfl) (by kernel_rfl) (by kernel_rfl) (fun _ _ _ h => h) (Or.inl ⟨by rfl, fun w hSw => ?_⟩) hHeld ?_
        · (try dsimp only at hSw)
          unfold oE12
          go_simp
        try simp only [oE12, Act.put, List.setIfInBounds_toArray, List.set_cons_zero, List.set_cons_succ]
        refine wpAnyH_take (i := 13) (oi := oE13) (v := .int .i64 6) rfl (by kernel_rfl) (by kernel_rfl) (by kernel_rfl) (fun _ _ _ h => h) (Or.inl ⟨by rfl, fun w hSw => ?_⟩) hHeld ?_
        · (try dsimp only at hSw)
          unfold oE13
          go_simp
        try simp only [oE13, Act.put, List.setIfInBounds_toArray, List.set_cons_zero, List.set_cons_succ]
        refine wpAnyH_done (by kernel_rfl) ?_ _
        go_wp2
        go_ret2
        exact ⟨z.b, 0, 6, unhide EE, rfl, .inr ⟨by omega, Var.any (unhide D4).v⟩, Frm.below (unhide D4).b bu⟩
      · unfold oE8
        go_simp
        refine hK.out _ _ trivial (fun hHeld => ?_)
        clear hK K
        try simp only [oE8, Act.put, List.setIfInBounds_toArray, List.set_cons_zero, List.set_cons_succ]
        refine wpAnyH_ready (rs := [5]) (by kernel_rfl) (by simp) ?_
        refine AllReadyH.cons (o := oE5) rfl (fun K hK => ?_) AllReadyH.nil
        unfold oE5
        go_simp
        refine hK.out _ _ trivial (fun hHeld => ?_)
        clear hK K
        try simp only [oE5, Act.put, List.setIfInBounds_toArray, List.set_cons_zero, List.set_cons_succ]
        refine wpAnyH_ready (rs := [9]) (by kernel_rfl) (by simp) ?_
        refine AllReadyH.cons (o := oE9) rfl (fun K hK => ?_) AllReadyH.nil
        unfold oE9
        go_simp
        refine (iEndEnded w3.drew _ _ kind way).mono ?_
        rintro e u4 ⟨rfl, bb⟩
        have D4 := hide ((unhide D3d).step bb)
        clear bb
        go_wp2_with fail
        refine hK.out _ _ trivial (fun hHeld => ?_)
        clear hK K
        try simp only [oE9, Act.put, List.setIfInBounds_toArray, List.set_cons_zero, List.set_cons_succ]
        refine wpAnyH_take (i := 10) (oi := oE10) (v := .int .i64 0) rfl (by kernel_rfl) (by kernel_rfl) (by kernel_rfl) (fun _ _ _ h => h) (Or.inl ⟨by rfl, fun w hSw => ?_⟩) hHeld ?_
        · (try dsimp only at hSw)
          unfold oE10
          go_simp
        try simp only [oE10, Act.put, List.setIfInBounds_toArray, List.set_cons_zero, List.set_cons_succ]
        refine wpAnyH_take (i := 11) (oi := oE11) (v := .int .i64 6) rfl (by kernel_rfl) (by kernel_rfl) (by kernel_rfl) (fun _ _ _ h => h) (Or.inl ⟨by rfl, fun w hSw => ?_⟩) hHeld ?_
        · (try dsimp only at hSw)
          unfold oE11
          go_simp
        try simp only [oE11, Act.put, List.setIfInBounds_toArray, List.set_cons_zero, List.set_cons_succ]
        refine wpAnyH_take (i := 12) (oi := oE12) (v := .int .i64 0) rfl (by kernel_rfl) (by kernel_rfl) (by kernel_rfl) (fun _ _ _ h => h) (Or.inl ⟨by rfl, fun w hSw => ?_⟩) hHeld ?_
        · (try dsimp only at hSw)
          unfold oE12
          go_simp
        try simp only [oE12, Act.put, List.setIfInBounds_toArray, List.set_cons_zero, List.set_cons_succ]
        refine wpAnyH_take (i := 13) (oi := oE13) (v := .int .i64 6) rfl (by kernel_rfl) (by kernel_rfl) (by kernel_rfl) (fun _ _ _ h => h) (Or.inl ⟨by rfl, fun w hSw => ?_⟩) hHeld ?_
        · (try dsimp only at hSw)
          unfold oE13
          go_simp
        try simp only [oE13, Act.put, List.setIfInBounds_toArray, List.set_cons_zero, List.set_cons_succ]
        refine wpAnyH_done (by kernel_rfl) ?_ _
        go_wp2
        go_ret2
        exact ⟨z.b, 0, 6, unhide EE, rfl, .inr ⟨by omega, Var.any (unhide D4).v⟩, Frm.below (unhide D4).b bu⟩
    · unfold oE8
      go_simp
      refine hK.out _ _ trivial (fun hHeld => ?_)
      clear hK K
      try simp only [oE8, Act.put, List.setIfInBounds_toArray, List.set_cons_zero, List.set_cons_succ]
      refine wpAnyH_ready (rs := [3]) (by kernel_rfl) (by simp) ?_
      refine AllReadyH.cons (o := oE3) rfl (fun K hK => ?_) AllReadyH.nil
      unfold oE3
      go_simp
      refine hK.out _ _ trivial (fun hHeld => ?_)
      clear hK K
      try simp only [oE3, Act.put, List.setIfInBounds_toArray, List.set_cons_zero, List.set_cons_succ]
      refine wpAnyH_take (i := 4) (oi := oE4) (v := .pointer (some ⟨w2.heap.size, 3, none⟩)) rfl (by kernel_rfl) (by kernel_rfl) (by kernel_rfl) (fun _ _ _ h => h) (Or.inl ⟨by rfl, fun w hSw => ?_⟩) hHeld ?_
      · (try dsimp only at hSw)
        unfold oE4
        go_simp
      try simp only [oE4, Act.put, List.setIfInBounds_toArray, List.set_cons_zero, List.set_cons_succ]
      refine wpAnyH_ready (rs := [5]) (by kernel_rfl) (by simp) ?_
      refine AllReadyH.cons (o := oE5) rfl (fun K hK => ?_) AllReadyH.nil
      unfold oE5
      go_simp
      refine hK.out _ _ trivial (fun hHeld => ?_)
      clear hK K
      try simp only [oE5, Act.put, List.setIfInBounds_toArray, List.set_cons_zero, List.set_cons_succ]
      refine wpAnyH_ready (rs := [9]) (by kernel_rfl) (by simp) ?_
      refine AllReadyH.cons (o := oE9) rfl (fun K hK => ?_) AllReadyH.nil
      unfold oE9
      go_simp
      refine (iEndEnded w3.drew _ _ kind way).mono ?_
      rintro e u4 ⟨rfl, bb⟩
      have D4 := hide ((unhide D3d).step bb)
      clear bb
      go_wp2_with fail
      refine hK.out _ _ trivial (fun hHeld => ?_)
      clear hK K
      try simp only [oE9, Act.put, List.setIfInBounds_toArray, List.set_cons_zero, List.set_cons_succ]
      refine wpAnyH_take (i := 10) (oi := oE10) (v := .int .i64 0) rfl (by kernel_rfl) (by kernel_rfl) (by kernel_rfl) (fun _ _ _ h => h) (Or.inl ⟨by rfl, fun w hSw => ?_⟩) hHeld ?_
      · (try dsimp only at hSw)
        unfold oE10
        go_simp
      try simp only [oE10, Act.put, List.setIfInBounds_toArray, List.set_cons_zero, List.set_cons_succ]
      refine wpAnyH_take (i := 11) (oi := oE11) (v := .int .i64 6) rfl (by kernel_rfl) (by kernel_rfl) (by kernel_rfl) (fun _ _ _ h => h) (Or.inl ⟨by rfl, fun w hSw => ?_⟩) hHeld ?_
      · (try dsimp only at hSw)
        unfold oE11
        go_simp
      try simp only [oE11, Act.put, List.setIfInBounds_toArray, List.set_cons_zero, List.set_cons_succ]
      refine wpAnyH_take (i := 12) (oi := oE12) (v := .int .i64 0) rfl (by kernel_rfl) (by kernel_rfl) (by kernel_rfl) (fun _ _ _ h => h) (Or.inl ⟨by rfl, fun w hSw => ?_⟩) hHeld ?_
      · (try dsimp only at hSw)
        unfold oE12
        go_simp
      try simp only [oE12, Act.put, List.setIfInBounds_toArray, List.set_cons_zero, List.set_cons_succ]
      refine wpAnyH_take (i := 13) (oi := oE13) (v := .int .i64 6) rfl (by kernel_rfl) (by kernel_rfl) (by kernel_rfl) (fun _ _ _ h => h) (Or.inl ⟨by rfl, fun w hSw => ?_⟩) hHeld ?_
      · (try dsimp only at hSw)
        unfold oE13
        go_simp
      try simp only [oE13, Act.put, List.setIfInBounds_toArray, List.set_cons_zero, List.set_cons_succ]
      refine wpAnyH_done (by kernel_rfl) ?_ _
      go_wp2
      go_ret2
      exact ⟨z.b, 0, 6, unhide EE, rfl, .inr ⟨by omega, Var.any (unhide D4).v⟩, Frm.below (unhide D4).b bu⟩
end Go.Proofs.YteooapfmiammlaaGreat.IEnd
namespace Go.Proofs.YteooapfmiammlaaGreat.CancelTellI
open Go.ChangeShapes Go.WideShapes Go.ChangeAt Go.RowKit BMem Bks ILists BHelp Ans ICopied ICmdB IHave ICmdW ICmdF Trd
open SIssue (six_alloc box_six_alloc to_wb off_box)
open IBalsFit (one_more all_one)
open ITrade (at_new)
open Lots (Says says_of NoOk)
open IssueTellI (says_and more)
open SCancel (ToldC)
open IEnd (EndP)
open SSettle (to_wc)
/-- The books that were handed in, the numbers, and the answer's variable behind them. -/
structure TW (w W : World) (x : Bx) (no : Int) : Prop where
  r : Rd W x
  c : Cl W w.heap.size x
  n1 : W.cell? ⟨w.heap.size + 1, 0, none⟩ = some (.int .i64 no)
  v : Box W w.heap.size (w.heap.size + 1 + 1) (.slice none 0 0) (.slice none 0 0) (.slice none 0 0) (.slice none 0 0) (.slice none 0 0) (.int .i64 0)
  b : Below w.heap.size w W
theorem TW.step {w W W' : World} {x : Bx} {no : Int} (h : TW w W x no) (k : Below W.heap.size W W') : TW w W' x no := by
  have l := h.v.lt
  exact ⟨h.r.below k, h.c.below k (by omega), (k.cell (p := ⟨w.heap.size + 1, 0, none⟩) (by simp <;> omega)).trans h.n1, h.v.below k (by omega), h.b.trans (k.mono h.b.size)⟩
theorem TW.start {w : World} {x : Bx} {no : Int} (h : Rd w x) : TW w (((w.alloc (.cells #[.slice (some ⟨x.ga, 0, none⟩) x.b.ac.length x.ca, .slice (some ⟨x.gi, 0, none⟩) x.b.ic.length x.ci, .slice (some ⟨x.gb, 0, none⟩) x.b.bs.length x.cb, .slice (some ⟨x.gl, 0, none⟩) x.b.ls.length x.cl, .slice (some ⟨x.gt, 0, none⟩) x.b.ts.length x.ct, .int .i64 x.b.lot] 40)).alloc (.cells #[.int .i64 no] 3)).alloc (.cells #[.slice none 0 0, .slice none 0 0, .slice none 0 0, .slice none 0 0, .slice none 0 0, .int .i64 0] 40)) x no := by
  have b : Below (w.heap.size + 1) (w.alloc (.cells #[.slice (some ⟨x.ga, 0, none⟩) x.b.ac.length x.ca, .slice (some ⟨x.gi, 0, none⟩) x.b.ic.length x.ci, .slice (some ⟨x.gb, 0, none⟩) x.b.bs.length x.cb, .slice (some ⟨x.gl, 0, none⟩) x.b.ls.length x.cl, .slice (some ⟨x.gt, 0, none⟩) x.b.ts.length x.ct, .int .i64 x.b.lot] 40)) (((w.alloc (.cells #[.slice (some ⟨x.ga, 0, none⟩) x.b.ac.length x.ca, .slice (some ⟨x.gi, 0, none⟩) x.b.ic.length x.ci, .slice (some ⟨x.gb, 0, none⟩) x.b.bs.length x.cb, .slice (some ⟨x.gl, 0, none⟩) x.b.ls.length x.cl, .slice (some ⟨x.gt, 0, none⟩) x.b.ts.length x.ct, .int .i64 x.b.lot] 40)).alloc (.cells #[.int .i64 no] 3)).alloc (.cells #[.slice none 0 0, .slice none 0 0, .slice none 0 0, .slice none 0 0, .slice none 0 0, .int .i64 0] 40)) :=
    ((Below.refl _ _).alloc (by simp) _).alloc (by simp <;> omega) _
  refine ⟨h.below (((Below.refl w.heap.size w).alloc (Nat.le_refl _) _).trans (b.mono (by omega))), (boxed w x 40).below b (by omega), ?_, Box.made _ _ _ _ _ _ (by simp <;> omega) (by simp), ((Below.refl w.heap.size w).alloc (Nat.le_refl _) _).trans (b.mono (by omega))⟩
  · exact more (cell_new _ _ _ (by simp)) (by simp) _
theorem TW.hold {w W : World} {x : Bx} {no : Int} (h : TW w W x no) : W.cell? ⟨w.heap.size, 0, none⟩ = some (.slice (some ⟨x.ga, 0, none⟩) x.b.ac.length x.ca) ∧ W.cell? ⟨w.heap.size, 1, none⟩ = some (.slice (some ⟨x.gi, 0, none⟩) x.b.ic.length x.ci) ∧ W.cell? ⟨w.heap.size, 2, none⟩ = some (.slice (some ⟨x.gb, 0, none⟩) x.b.bs.length x.cb) ∧ W.cell? ⟨w.heap.size, 3, none⟩ = some (.slice (some ⟨x.gl, 0, none⟩) x.b.ls.length x.cl) ∧ W.cell? ⟨w.heap.size, 4, none⟩ = some (.slice (some ⟨x.gt, 0, none⟩) x.b.ts.length x.ct) ∧ W.cell? ⟨w.heap.size, 5, none⟩ = some (.int .i64 x.b.lot) ∧ W.cell? ⟨w.heap.size + 1, 0, none⟩ = some (.int .i64 no) := ⟨h.c.c0, h.c.c1, h.c.c2, h.c.c3, h.c.c4, h.c.c5, h.n1⟩
theorem TW.holdG {w W W' : World} {x : Bx} {no : Int} {p : Nat} (h : TW w W x no) (k : W.grownBy W' (some p)) (hp : w.heap.size + 1 < p) : W'.cell? ⟨w.heap.size, 0, none⟩ = some (.slice (some ⟨x.ga, 0, none⟩) x.b.ac.length x.ca) ∧ W'.cell? ⟨w.heap.size, 1, none⟩ = some (.slice (some ⟨x.gi, 0, none⟩) x.b.ic.length x.ci) ∧ W'.cell? ⟨w.heap.size, 2, none⟩ = some (.slice (some ⟨x.gb, 0, none⟩) x.b.bs.length x.cb) ∧ W'.cell? ⟨w.heap.size, 3, none⟩ = some (.slice (some ⟨x.gl, 0, none⟩) x.b.ls.length x.cl) ∧ W'.cell? ⟨w.heap.size, 4, none⟩ = some (.slice (some ⟨x.gt, 0, none⟩) x.b.ts.length x.ct) ∧ W'.cell? ⟨w.heap.size, 5, none⟩ = some (.int .i64 x.b.lot) ∧ W'.cell? ⟨w.heap.size + 1, 0, none⟩ = some (.int .i64 no) := by
  have q0 : some w.heap.size ≠ some p := fun e => by injection e; omega
  have q1 : some (w.heap.size + 1) ≠ some p := fun e => by injection e; omega
  exact ⟨k.cell h.c.c0 q0, k.cell h.c.c1 q0, k.cell h.c.c2 q0, k.cell h.c.c3 q0, k.cell h.c.c4 q0, k.cell h.c.c5 q0, k.cell h.n1 q1⟩
theorem cancel_done {b b' : Bk} {no t : Int} (h : EndP b no 0 0 b' t 0) : IsCancel b no b' 0 := by
  rcases h with ⟨_, h, _⟩ | ⟨e, _⟩
  · exact h
  · exact absurd e (by decide)
theorem cancel_not {b b' : Bk} {no t c : Int} (h : EndP b no 0 0 b' t c) (hc : c ≠ 0) : IsCancel b no b c := by
  rcases h with ⟨_, h, _⟩ | ⟨e, _⟩
  · rcases h with ⟨h, rfl, rfl⟩ | ⟨k, h, ⟨h1, rfl, rfl⟩ | ⟨h1, rfl, rfl⟩⟩
    · exact .inl ⟨h, rfl, rfl⟩
    · exact .inr ⟨k, h, .inl ⟨h1, rfl, rfl⟩⟩
    · exact absurd rfl hc
  · exact absurd e (by decide)
set_option maxRecDepth 100000 in
theorem iClosure (u : World) (z : Bx) (base g : Nat) (p1 : Addr) (no : Int) (h1 : u.cell? p1 = some (.int .i64 no)) (ok : Ok z.b) (V : Var u base g z) (O : Ow u (base + 4) z) (hg : g < base + 4) :
    Calls Tryz.prog 67 #[.pointer (some ⟨g, 0, none⟩), .pointer (some p1)] u (DoesW (EndP z.b no 0 0) base g u) := by
  have V1 := hide V
  have O1 := hide O
  have OK := hide ok
  clear V O ok
  go_enter Tryz.func67, Tryz.ntmps67
  go_wp2_with fail
  refine (IEnd.iEndTrade u z base g no 0 0 (unhide OK) (.inl rfl) (unhide V1) (unhide O1) hg).mono ?_
  rintro e u' ⟨b', t, c, hI, rfl, hz, gr⟩
  have HI := hide hI
  have HZ := hide hz
  have GR := hide gr
  clear hI hz gr
  go_wp2
  go_ret2
  exact ⟨b', t, c, unhide HI, rfl, unhide HZ, unhide GR⟩
/-- The operations of the region that draws its order. -/
abbrev oC0 : Oper := { dst := some 10, op := Go.Op.load 40 (Go.Operand.tmp 2), type := 40, pos := "l07_trade.go:30", after := #[], guard := none }
abbrev oC1 : Oper := { dst := some 11, op := Go.Op.load 3 (Go.Operand.tmp 3), type := 3, pos := "l07_trade.go:30", after := #[], guard := none }
abbrev oC2 : Oper := { dst := some 12, op := Go.Op.buildSlice 53 1 #[(0, Go.Operand.tmp 11)], type := 53, pos := "l07_trade.go:30", after := #[{ on := 1, ground := Go.Ground.data }], guard := none }
abbrev oC3 : Oper := { dst := some 13, op := Go.Op.call { callee := Go.Callee.value (Go.Operand.func 51), args := #[Go.Operand.tmp 12], argTypes := #[53] }, type := 4, pos := "l07_trade.go:30", after := #[{ on := 2, ground := Go.Ground.data }], guard := none }
abbrev oC4 : Oper := { dst := some 14, op := Go.Op.makeFunc (Go.Fn.func 67) #[] #[Go.Operand.tmp 3], type := 84, pos := "l07_trade.go:30", after := #[], guard := none }
abbrev oC5 : Oper := { dst := some 15, op := Go.Op.call { callee := Go.Callee.value (Go.Operand.func 53), args := #[Go.Operand.tmp 10, Go.Operand.tmp 13, Go.Operand.tmp 14], argTypes := #[40, 4, 84] }, type := 50, pos := "l07_trade.go:30", after := #[{ on := 0, ground := Go.Ground.data }, { on := 3, ground := Go.Ground.data }, { on := 4, ground := Go.Ground.data }, { on := 3, ground := Go.Ground.chain }], guard := none }
abbrev oC6 : Oper := { dst := some 9, op := Go.Op.move (Go.Operand.tmp 15), type := 50, pos := "l07_trade.go:30", after := #[{ on := 5, ground := Go.Ground.data }], guard := none }
abbrev oC7 : Oper := { dst := some 16, op := Go.Op.extract (Go.Operand.tmp 9) 0, type := 40, pos := "l07_trade.go:30", after := #[{ on := 6, ground := Go.Ground.data }], guard := none }
abbrev oC8 : Oper := { dst := some 17, op := Go.Op.extract (Go.Operand.tmp 9) 1, type := 3, pos := "l07_trade.go:30", after := #[{ on := 6, ground := Go.Ground.data }, { on := 11, ground := Go.Ground.gcOnly Go.Departure.lateStores }], guard := none }
abbrev oC9 : Oper := { dst := some 18, op := Go.Op.extract (Go.Operand.tmp 9) 2, type := 3, pos := "l07_trade.go:30", after := #[{ on := 6, ground := Go.Ground.data }, { on := 12, ground := Go.Ground.gcOnly Go.Departure.lateStores }], guard := none }
abbrev oC10 : Oper := { dst := some 6, op := Go.Op.alloc 40, type := 0, pos := "l07_trade.go:30", after := #[], guard := none }
abbrev oC11 : Oper := { dst := none, op := Go.Op.store 40 (Go.Operand.tmp 6) (Go.Operand.tmp 16), type := 0, pos := "l07_trade.go:30", after := #[{ on := 10, ground := Go.Ground.data }, { on := 7, ground := Go.Ground.data }, { on := 5, ground := Go.Ground.chain }, { on := 0, ground := Go.Ground.phase }, { on := 1, ground := Go.Ground.phase }, { on := 2, ground := Go.Ground.phase }, { on := 3, ground := Go.Ground.phase }, { on := 4, ground := Go.Ground.phase }, { on := 5, ground := Go.Ground.phase }, { on := 6, ground := Go.Ground.phase }, { on := 7, ground := Go.Ground.phase }, { on := 8, ground := Go.Ground.textOnly Go.Departure.lateStores }, { on := 9, ground := Go.Ground.textOnly Go.Departure.lateStores }, { on := 10, ground := Go.Ground.phase }], guard := none }
abbrev oC12 : Oper := { dst := some 7, op := Go.Op.assign (Go.Operand.tmp 17), type := 3, pos := "l07_trade.go:30", after := #[{ on := 8, ground := Go.Ground.data }, { on := 11, ground := Go.Ground.chain }, { on := 0, ground := Go.Ground.phase }, { on := 1, ground := Go.Ground.phase }, { on := 2, ground := Go.Ground.phase }, { on := 3, ground := Go.Ground.phase }, { on := 4, ground := Go.Ground.phase }, { on := 5, ground := Go.Ground.phase }, { on := 6, ground := Go.Ground.phase }, { on := 7, ground := Go.Ground.phase }, { on := 8, ground := Go.Ground.phase }, { on := 9, ground := Go.Ground.textOnly Go.Departure.lateStores }, { on := 10, ground := Go.Ground.phase }, { on := 11, ground := Go.Ground.phase }], guard := none }
abbrev oC13 : Oper := { dst := some 8, op := Go.Op.assign (Go.Operand.tmp 18), type := 3, pos := "l07_trade.go:30", after := #[{ on := 9, ground := Go.Ground.data }, { on := 12, ground := Go.Ground.chain }, { on := 0, ground := Go.Ground.phase }, { on := 1, ground := Go.Ground.phase }, { on := 2, ground := Go.Ground.phase }, { on := 3, ground := Go.Ground.phase }, { on := 4, ground := Go.Ground.phase }, { on := 5, ground := Go.Ground.phase }, { on := 6, ground := Go.Ground.phase }, { on := 7, ground := Go.Ground.phase }, { on := 8, ground := Go.Ground.phase }, { on := 9, ground := Go.Ground.phase }, { on := 10, ground := Go.Ground.phase }, { on := 11, ground := Go.Ground.phase }, { on := 12, ground := Go.Ground.phase }], guard := none }
set_option maxRecDepth 100000 in
set_option maxHeartbeats 16000000 in
theorem iTell (w : World) (x : Bx) (no : Int) (h : Rd w x) :
    Calls Tryz.prog 19 #[.agg #[.slice (some ⟨x.ga, 0, none⟩) x.b.ac.length x.ca, .slice (some ⟨x.gi, 0, none⟩) x.b.ic.length x.ci, .slice (some ⟨x.gb, 0, none⟩) x.b.bs.length x.cb, .slice (some ⟨x.gl, 0, none⟩) x.b.ls.length x.cl, .slice (some ⟨x.gt, 0, none⟩) x.b.ts.length x.ct, .int .i64 x.b.lot], .int .i64 no] w (AnsB (ToldC x.b no) (IsCancel x.b no) w) := by
  obtain ⟨b1, h1⟩ := says_of (∀ y ∈ [no], NoOk y)
  have HT := hide (show Says b1 (NoOk no) from ⟨fun e => h1.1 e no (by simp), fun r => h1.of (fun y hy => by
    simp only [List.mem_cons, List.not_mem_nil, or_false] at hy
    subst hy
    exact r)⟩)
  have H1 := hide h1
  have S0 := hide (TW.start (no := no) h)
  clear h1 h
  go_enter Tryz.func19, Tryz.ntmps19
  go_wp2_with fail
  generalize ((w.alloc (.cells #[.slice (some ⟨x.ga, 0, none⟩) x.b.ac.length x.ca, .slice (some ⟨x.gi, 0, none⟩) x.b.ic.length x.ci, .slice (some ⟨x.gb, 0, none⟩) x.b.bs.length x.cb, .slice (some ⟨x.gl, 0, none⟩) x.b.ls.length x.cl, .slice (some ⟨x.gt, 0, none⟩) x.b.ts.length x.ct, .int .i64 x.b.lot] 40)).alloc (.cells #[.int .i64 no] 3)).alloc (.cells #[.slice none 0 0, .slice none 0 0, .slice none 0 0, .slice none 0 0, .slice none 0 0, .int .i64 0] 40) = w0 at *
  have z0 : w.heap.size + 1 + 1 < w0.heap.size := (unhide S0).v.lt.2
  have hmf : ∀ (fn : Fn) (first cp : Array Value) (w : World), (Instr.makeFunc fn first cp).run Tryz.prog w = .ok (.func fn first cp) w := fun _ _ _ _ => rfl
  have HF := hide (show ∀ W : World, TW w W x no → w0.heap.size ≤ W.heap.size → Ok x.b → (NoOk no) → ∀ (u : World) (z : Bx), z.b = x.b → Var u W.heap.size (W.heap.size + 1) z → Ow u (W.heap.size + 4) z → Below W.heap.size W u → Calls Tryz.prog 67 (#[.pointer (some ⟨W.heap.size + 1, 0, none⟩)] ++ #[.pointer (some ⟨w.heap.size + 1, 0, none⟩)]) u (DoesW (EndP x.b no 0 0) W.heap.size (W.heap.size + 1) u) from by
    intro W tw s ok ta u z hz V O bb
    have q := iClosure u z W.heap.size (W.heap.size + 1) ⟨w.heap.size + 1, 0, none⟩ no ((bb.cell (p := ⟨w.heap.size + 1, 0, none⟩) (by simp <;> omega)).trans tw.n1) (by rw [hz]; exact ok) V O (by omega)
    rw [hz] at q
    exact q)
  have SB := hide (((unhide S0).step (Below.refl _ _).drew).step (one_more w0.drew (.cells #[.int .i64 no] 3)))
  refine wp_region_held_drew (S := (fun w' => w'.cell? ⟨w.heap.size, 0, none⟩ = some (.slice (some ⟨x.ga, 0, none⟩) x.b.ac.length x.ca) ∧ w'.cell? ⟨w.heap.size, 1, none⟩ = some (.slice (some ⟨x.gi, 0, none⟩) x.b.ic.length x.ci) ∧ w'.cell? ⟨w.heap.size, 2, none⟩ = some (.slice (some ⟨x.gb, 0, none⟩) x.b.bs.length x.cb) ∧ w'.cell? ⟨w.heap.size, 3, none⟩ = some (.slice (some ⟨x.gl, 0, none⟩) x.b.ls.length x.cl) ∧ w'.cell? ⟨w.heap.size, 4, none⟩ = some (.slice (some ⟨x.gt, 0, none⟩) x.b.ts.length x.ct) ∧ w'.cell? ⟨w.heap.size, 5, none⟩ = some (.int .i64 x.b.lot) ∧ w'.cell? ⟨w.heap.size + 1, 0, none⟩ = some (.int .i64 no))) (by kernel_rfl) (unhide S0).hold (fun hHeld => ?_)
  refine wpAnyH_take (i := 0) (oi := oC0) (v := .agg #[.slice (some ⟨x.ga, 0, none⟩) x.b.ac.length x.ca, .slice (some ⟨x.gi, 0, none⟩) x.b.ic.length x.ci, .slice (some ⟨x.gb, 0, none⟩) x.b.bs.length x.cb, .slice (some ⟨x.gl, 0, none⟩) x.b.ls.length x.cl, .slice (some ⟨x.gt, 0, none⟩) x.b.ts.length x.ct, .int .i64 x.b.lot]) rfl (by kernel_rfl) (by kernel_rfl) (by kernel_rfl) (fun _ _ _ h => h) (Or.inl ⟨by rfl, fun w hSw => ?_⟩) hHeld ?_
  · (try dsimp only at hSw)
    unfold oC0
    go_simp
  try simp only [oC0, Act.put, List.setIfInBounds_toArray, List.set_cons_zero, List.set_cons_succ]
  refine wpAnyH_take (i := 1) (oi := oC1) (v := .int .i64 no) rfl (by kernel_rfl) (by kernel_rfl) (by kernel_rfl) (fun _ _ _ h => h) (Or.inl ⟨by rfl, fun w hSw => ?_⟩) hHeld ?_
  · (try dsimp only at hSw)
    unfold oC1
    go_simp
  try simp only [oC1, Act.put, List.setIfInBounds_toArray, List.set_cons_zero, List.set_cons_succ]
  refine wpAnyH_take (i := 4) (oi := oC4) (v := .func (.func 67) #[] #[.pointer (some ⟨w.heap.size + 1, 0, none⟩)]) rfl (by kernel_rfl) (by kernel_rfl) (by kernel_rfl) (fun _ _ _ h => h) (Or.inl ⟨by rfl, fun w hSw => ?_⟩) hHeld ?_
  · (try dsimp only at hSw)
    unfold oC4
    go_simp
  try simp only [oC4, Act.put, List.setIfInBounds_toArray, List.set_cons_zero, List.set_cons_succ]
  refine wpAnyH_ready (rs := [2, 10]) (by kernel_rfl) (by simp) ?_
  refine AllReadyH.cons (o := oC2) rfl (fun K hK => ?_) (AllReadyH.cons (o := oC10) rfl (fun K hK => ?_) AllReadyH.nil)
  · unfold oC2
    go_simp
    refine hK.out _ _ (unhide SB).hold (fun hHeld => ?_)
    clear hK K
    try simp only [oC2, Act.put, List.setIfInBounds_toArray, List.set_cons_zero, List.set_cons_succ]
    refine wpAnyH_ready (rs := [3, 10]) (by kernel_rfl) (by simp) ?_
    refine AllReadyH.cons (o := oC3) rfl (fun K hK => ?_) (AllReadyH.cons (o := oC10) rfl (fun K hK => ?_) AllReadyH.nil)
    · unfold oC3
      go_simp
      refine (iNumbers _ (w0.heap.size) 1 1 [no] b1 rfl (by omega) (by first | (simp; done) | (simp; omega)) (at_new w0.drew [no] _ rfl rfl) (unhide H1)).mono ?_
      rintro e w2 ⟨rfl, bb⟩
      have S2 := hide ((unhide SB).step bb)
      have z2 : w0.heap.size ≤ w2.heap.size := (by have := bb.size; simp at this; omega)
      have K6 := (unhide S2).hold
      clear bb
      go_wp2_with fail
      refine hK.out _ _ K6 (fun hHeld => ?_)
      clear hK K
      try simp only [oC3, Act.put, List.setIfInBounds_toArray, List.set_cons_zero, List.set_cons_succ]
      refine wpAnyH_ready (rs := [5, 10]) (by kernel_rfl) (by simp) ?_
      refine AllReadyH.cons (o := oC5) rfl (fun K hK => ?_) (AllReadyH.cons (o := oC10) rfl (fun K hK => ?_) AllReadyH.nil)
      · unfold oC5
        go_simp
        refine (iCmdW _ x b1 (NoOk no) 67 _ (EndP x.b no 0 0) (unhide S2).r (unhide HT) (fun _ _ => rfl) ((unhide HF) _ (unhide S2) (by first | exact z2 | (simp; omega)))).mono ?_
        intro e w3 hA
        obtain ⟨a0, a1, a2, a3, a4, n0, n1, n2, n3, n4, j0, j1, j2, j3, j4, l, t, c, rfl, fin, bb⟩ := fin_of hA
        have S3 := hide ((unhide S2).step bb)
        have FN := hide (fin.rebase (base' := w.heap.size) (by first | omega | (simp; omega)))
        have z3 : w2.heap.size ≤ w3.heap.size := (by have := bb.size; first | exact this | (simp at this; omega))
        have K7 := (unhide S3).hold
        clear bb hA fin
        go_wp2_with fail
        refine hK.out _ _ K7 (fun hHeld => ?_)
        clear hK K
        try simp only [oC5, Act.put, List.setIfInBounds_toArray, List.set_cons_zero, List.set_cons_succ]
        refine wpAnyH_take (i := 6) (oi := oC6) (v := .tuple #[.agg #[.slice a0 n0 j0, .slice a1 n1 j1, .slice a2 n2 j2, .slice a3 n3 j3, .slice a4 n4 j4, .int .i64 l], .int .i64 t, .int .i64 c]) rfl (by kernel_rfl) (by kernel_rfl) (by kernel_rfl) (fun _ _ _ h => h) (Or.inl ⟨by rfl, fun w hSw => ?_⟩) hHeld ?_
        · (try dsimp only at hSw)
          unfold oC6
          go_simp
        try simp only [oC6, Act.put, List.setIfInBounds_toArray, List.set_cons_zero, List.set_cons_succ]
        refine wpAnyH_take (i := 7) (oi := oC7) (v := .agg #[.slice a0 n0 j0, .slice a1 n1 j1, .slice a2 n2 j2, .slice a3 n3 j3, .slice a4 n4 j4, .int .i64 l]) rfl (by kernel_rfl) (by kernel_rfl) (by kernel_rfl) (fun _ _ _ h => h) (Or.inl ⟨by rfl, fun w hSw => ?_⟩) hHeld ?_
        · (try dsimp only at hSw)
          unfold oC7
          go_simp
        try simp only [oC7, Act.put, List.setIfInBounds_toArray, List.set_cons_zero, List.set_cons_succ]
        refine wpAnyH_take (i := 8) (oi := oC8) (v := .int .i64 t) rfl (by kernel_rfl) (by kernel_rfl) (by kernel_rfl) (fun _ _ _ h => h) (Or.inl ⟨by rfl, fun w hSw => ?_⟩) hHeld ?_
        · (try dsimp only at hSw)
          unfold oC8
          go_simp
        try simp only [oC8, Act.put, List.setIfInBounds_toArray, List.set_cons_zero, List.set_cons_succ]
        refine wpAnyH_take (i := 9) (oi := oC9) (v := .int .i64 c) rfl (by kernel_rfl) (by kernel_rfl) (by kernel_rfl) (fun _ _ _ h => h) (Or.inl ⟨by rfl, fun w hSw => ?_⟩) hHeld ?_
        · (try dsimp only at hSw)
          unfold oC9
          go_simp
        try simp only [oC9, Act.put, List.setIfInBounds_toArray, List.set_cons_zero, List.set_cons_succ]
        refine wpAnyH_ready (rs := [10]) (by kernel_rfl) (by simp) ?_
        refine AllReadyH.cons (o := oC10) rfl (fun K hK => ?_) AllReadyH.nil
        unfold oC10
        go_simp
        refine hK.out _ _ ((unhide S3).step (one_more w3 _)).hold (fun hHeld => ?_)
        clear hK K
        try simp only [oC10, Act.put, List.setIfInBounds_toArray, List.set_cons_zero, List.set_cons_succ]
        refine wpAnyH_ready (rs := [11]) (by kernel_rfl) (by simp) ?_
        refine AllReadyH.cons (o := oC11) rfl (fun K hK => ?_) AllReadyH.nil
        unfold oC11
        go_simp
        refine hK.out _ _ ((unhide S3).step (one_more w3 _)).hold (fun hHeld => ?_)
        clear hK K
        try simp only [oC11, Act.put, List.setIfInBounds_toArray, List.set_cons_zero, List.set_cons_succ]
        refine wpAnyH_take (i := 12) (oi := oC12) (v := .int .i64 t) rfl (by kernel_rfl) (by kernel_rfl) (by kernel_rfl) (fun _ _ _ h => h) (Or.inl ⟨by rfl, fun w hSw => ?_⟩) hHeld ?_
        · (try dsimp only at hSw)
          unfold oC12
          go_simp
        try simp only [oC12, Act.put, List.setIfInBounds_toArray, List.set_cons_zero, List.set_cons_succ]
        refine wpAnyH_take (i := 13) (oi := oC13) (v := .int .i64 c) rfl (by kernel_rfl) (by kernel_rfl) (by kernel_rfl) (fun _ _ _ h => h) (Or.inl ⟨by rfl, fun w hSw => ?_⟩) hHeld ?_
        · (try dsimp only at hSw)
          unfold oC13
          go_simp
        try simp only [oC13, Act.put, List.setIfInBounds_toArray, List.set_cons_zero, List.set_cons_succ]
        refine wpAnyH_done (by kernel_rfl) ?_ _
        refine to_wc (fun W => Box W w.heap.size (w.heap.size + 1 + 1) (.slice none 0 0) (.slice none 0 0) (.slice none 0 0) (.slice none 0 0) (.slice none 0 0) (.int .i64 0) ∧ Box W w.heap.size (w3.heap.size) (.slice a0 n0 j0) (.slice a1 n1 j1) (.slice a2 n2 j2) (.slice a3 n3 j3) (.slice a4 n4 j4) (.int .i64 l) ∧ Fin ((NoOk no) ∧ Ok x.b) x.b (EndP x.b no 0 0) w.heap.size a0 a1 a2 a3 a4 n0 n1 n2 n3 n4 j0 j1 j2 j3 j4 l t c W ∧ Below w.heap.size w W) ⟨World.ownsRow.alloc (unhide S3).v _, Box.made _ _ _ _ _ _ (unhide S3).b.size rfl, (unhide FN).alloc _, (unhide S3).b.alloc (unhide S3).b.size _⟩ ?_
        clear HF HT
        rintro W ⟨R', X', FI', B'⟩
        have R := hide R'
        have XN := hide X'
        have FI := hide FI'
        have B := hide B'
        clear R' X' FI' B'

        have r0 := (unhide R).c0
        have r1 := (unhide R).c1
        have r2 := (unhide R).c2
        have r3 := (unhide R).c3
        have r4 := (unhide R).c4
        have r5 := (unhide R).c5
        have f0 := (unhide R).free 0
        have f1 := (unhide R).free 1
        have f2 := (unhide R).free 2
        have f3 := (unhide R).free 3
        have f4 := (unhide R).free 4
        have f5 := (unhide R).free 5
        have x0 := (unhide XN).c0
        have x1 := (unhide XN).c1
        have x2 := (unhide XN).c2
        have x3 := (unhide XN).c3
        have x4 := (unhide XN).c4
        have x5 := (unhide XN).c5
        go_wp2
        refine to_wb (fun W => Box W w.heap.size (w.heap.size + 1 + 1) (.slice a0 n0 j0) (.slice a1 n1 j1) (.slice a2 n2 j2) (.slice a3 n3 j3) (.slice a4 n4 j4) (.int .i64 l) ∧ Fin ((NoOk no) ∧ Ok x.b) x.b (EndP x.b no 0 0) w.heap.size a0 a1 a2 a3 a4 n0 n1 n2 n3 n4 j0 j1 j2 j3 j4 l t c W ∧ Below w.heap.size w W) ⟨(box_six (unhide R) _ _ _ _ _ _).1, (unhide FI).six (unhide R) _ _ _ _ _ _, six (unhide B) (by omega) _ _ _ _ _ _⟩ ?_
        rintro W' ⟨X, FJ, B2⟩
        have g0 := X.c0
        have g1 := X.c1
        have g2 := X.c2
        have g3 := X.c3
        have g4 := X.c4
        have g5 := X.c5
        exact bodyPost_ret (v := .tuple #[.agg #[.slice a0 n0 j0, .slice a1 n1 j1, .slice a2 n2 j2, .slice a3 n3 j3, .slice a4 n4 j4, .int .i64 l], .int .i64 c]) (by simp [results, Tryz.results19, go_sem, g0, g1, g2, g3, g4, g5]) rfl (by
            have A := fin_ansB (w := w) (Q := IsCancel x.b no) FJ (Nat.le_refl _) B2 (fun b' t h => cancel_done h) (fun b' t c h hc => cancel_not h hc)
            rcases A with ⟨a, a2, a3⟩ | ⟨a, a2⟩
            · exact .inl ⟨fun hh => a ⟨hh.2, hh.1⟩, a2, a3⟩
            · exact .inr ⟨⟨a.2, a.1⟩, a2⟩)
      · unfold oC10
        go_simp
        have S2a := hide ((unhide S2).step (one_more w2 (.cells #[.slice none 0 0, .slice none 0 0, .slice none 0 0, .slice none 0 0, .slice none 0 0, .int .i64 0] 40)))
        have V0 := hide (Box.made (w := w2) (base := w.heap.size) (g := w2.heap.size) (.slice none 0 0) (.slice none 0 0) (.slice none 0 0) (.slice none 0 0) (.slice none 0 0) (.int .i64 0) (by omega) rfl)
        refine hK.out _ _ (unhide S2a).hold (fun hHeld => ?_)
        clear hK K
        try simp only [oC10, Act.put, List.setIfInBounds_toArray, List.set_cons_zero, List.set_cons_succ]
        refine wpAnyH_ready (rs := [5]) (by kernel_rfl) (by simp) ?_
        refine AllReadyH.cons (o := oC5) rfl (fun K hK => ?_) AllReadyH.nil
        unfold oC5
        go_simp
        refine (iCmdW _ x b1 (NoOk no) 67 _ (EndP x.b no 0 0) (unhide S2a).r (unhide HT) (fun _ _ => rfl) ((unhide HF) _ (unhide S2a) (by first | exact z2 | (simp; omega)))).mono ?_
        intro e w3 hA
        obtain ⟨a0, a1, a2, a3, a4, n0, n1, n2, n3, n4, j0, j1, j2, j3, j4, l, t, c, rfl, fin, bb⟩ := fin_of hA
        have S3 := hide ((unhide S2a).step bb)
        have FN := hide (fin.rebase (base' := w.heap.size) (by first | omega | (simp; omega)))
        have z3 : w2.heap.size ≤ w3.heap.size := (by have := bb.size; first | exact this | (simp at this; omega))
        have K7 := (unhide S3).hold
        have V0 := hide (Box.below (unhide V0) bb (unhide V0).lt.2)
        have zv := (unhide V0).lt
        have K8 := (unhide S3).holdG (box_six (unhide V0) (.slice a0 n0 j0) (.slice a1 n1 j1) (.slice a2 n2 j2) (.slice a3 n3 j3) (.slice a4 n4 j4) (.int .i64 l)).2 (by omega)
        have k0 := (unhide V0).c0
        have k1 := (unhide V0).c1
        have k2 := (unhide V0).c2
        have k3 := (unhide V0).c3
        have k4 := (unhide V0).c4
        have k5 := (unhide V0).c5
        have v0 := (unhide V0).free 0
        have v1 := (unhide V0).free 1
        have v2 := (unhide V0).free 2
        have v3 := (unhide V0).free 3
        have v4 := (unhide V0).free 4
        have v5 := (unhide V0).free 5
        clear bb hA fin
        go_wp2_with fail
        refine hK.out _ _ K7 (fun hHeld => ?_)
        clear hK K
        try simp only [oC5, Act.put, List.setIfInBounds_toArray, List.set_cons_zero, List.set_cons_succ]
        refine wpAnyH_take (i := 6) (oi := oC6) (v := .tuple #[.agg #[.slice a0 n0 j0, .slice a1 n1 j1, .slice a2 n2 j2, .slice a3 n3 j3, .slice a4 n4 j4, .int .i64 l], .int .i64 t, .int .i64 c]) rfl (by kernel_rfl) (by kernel_rfl) (by kernel_rfl) (fun _ _ _ h => h) (Or.inl ⟨by rfl, fun w hSw => ?_⟩) hHeld ?_
        · (try dsimp only at hSw)
          unfold oC6
          go_simp
        try simp only [oC6, Act.put, List.setIfInBounds_toArray, List.set_cons_zero, List.set_cons_succ]
        refine wpAnyH_take (i := 7) (oi := oC7) (v := .agg #[.slice a0 n0 j0, .slice a1 n1 j1, .slice a2 n2 j2, .slice a3 n3 j3, .slice a4 n4 j4, .int .i64 l]) rfl (by kernel_rfl) (by kernel_rfl) (by kernel_rfl) (fun _ _ _ h => h) (Or.inl ⟨by rfl, fun w hSw => ?_⟩) hHeld ?_
        · (try dsimp only at hSw)
          unfold oC7
          go_simp
        try simp only [oC7, Act.put, List.setIfInBounds_toArray, List.set_cons_zero, List.set_cons_succ]
        refine wpAnyH_take (i := 8) (oi := oC8) (v := .int .i64 t) rfl (by kernel_rfl) (by kernel_rfl) (by kernel_rfl) (fun _ _ _ h => h) (Or.inl ⟨by rfl, fun w hSw => ?_⟩) hHeld ?_
        · (try dsimp only at hSw)
          unfold oC8
          go_simp
        try simp only [oC8, Act.put, List.setIfInBounds_toArray, List.set_cons_zero, List.set_cons_succ]
        refine wpAnyH_take (i := 9) (oi := oC9) (v := .int .i64 c) rfl (by kernel_rfl) (by kernel_rfl) (by kernel_rfl) (fun _ _ _ h => h) (Or.inl ⟨by rfl, fun w hSw => ?_⟩) hHeld ?_
        · (try dsimp only at hSw)
          unfold oC9
          go_simp
        try simp only [oC9, Act.put, List.setIfInBounds_toArray, List.set_cons_zero, List.set_cons_succ]
        refine wpAnyH_ready (rs := [11]) (by kernel_rfl) (by simp) ?_
        refine AllReadyH.cons (o := oC11) rfl (fun K hK => ?_) AllReadyH.nil
        unfold oC11
        go_simp
        refine hK.out _ _ K8 (fun hHeld => ?_)
        clear hK K
        try simp only [oC11, Act.put, List.setIfInBounds_toArray, List.set_cons_zero, List.set_cons_succ]
        refine wpAnyH_take (i := 12) (oi := oC12) (v := .int .i64 t) rfl (by kernel_rfl) (by kernel_rfl) (by kernel_rfl) (fun _ _ _ h => h) (Or.inl ⟨by rfl, fun w hSw => ?_⟩) hHeld ?_
        · (try dsimp only at hSw)
          unfold oC12
          go_simp
        try simp only [oC12, Act.put, List.setIfInBounds_toArray, List.set_cons_zero, List.set_cons_succ]
        refine wpAnyH_take (i := 13) (oi := oC13) (v := .int .i64 c) rfl (by kernel_rfl) (by kernel_rfl) (by kernel_rfl) (fun _ _ _ h => h) (Or.inl ⟨by rfl, fun w hSw => ?_⟩) hHeld ?_
        · (try dsimp only at hSw)
          unfold oC13
          go_simp
        try simp only [oC13, Act.put, List.setIfInBounds_toArray, List.set_cons_zero, List.set_cons_succ]
        refine wpAnyH_done (by kernel_rfl) ?_ _
        refine to_wc (fun W => Box W w.heap.size (w.heap.size + 1 + 1) (.slice none 0 0) (.slice none 0 0) (.slice none 0 0) (.slice none 0 0) (.slice none 0 0) (.int .i64 0) ∧ Box W w.heap.size (w2.heap.size) (.slice a0 n0 j0) (.slice a1 n1 j1) (.slice a2 n2 j2) (.slice a3 n3 j3) (.slice a4 n4 j4) (.int .i64 l) ∧ Fin ((NoOk no) ∧ Ok x.b) x.b (EndP x.b no 0 0) w.heap.size a0 a1 a2 a3 a4 n0 n1 n2 n3 n4 j0 j1 j2 j3 j4 l t c W ∧ Below w.heap.size w W) ⟨(unhide S3).v.kept (box_six (unhide V0) _ _ _ _ _ _).2 (fun e => by injection e; omega), (box_six (unhide V0) _ _ _ _ _ _).1, (unhide FN).six (unhide V0) _ _ _ _ _ _, six (unhide S3).b (by omega) _ _ _ _ _ _⟩ ?_
        clear HF HT
        rintro W ⟨R', X', FI', B'⟩
        have R := hide R'
        have XN := hide X'
        have FI := hide FI'
        have B := hide B'
        clear R' X' FI' B'
        clear k0 k1 k2 k3 k4 k5 v0 v1 v2 v3 v4 v5 V0
        have r0 := (unhide R).c0
        have r1 := (unhide R).c1
        have r2 := (unhide R).c2
        have r3 := (unhide R).c3
        have r4 := (unhide R).c4
        have r5 := (unhide R).c5
        have f0 := (unhide R).free 0
        have f1 := (unhide R).free 1
        have f2 := (unhide R).free 2
        have f3 := (unhide R).free 3
        have f4 := (unhide R).free 4
        have f5 := (unhide R).free 5
        have x0 := (unhide XN).c0
        have x1 := (unhide XN).c1
        have x2 := (unhide XN).c2
        have x3 := (unhide XN).c3
        have x4 := (unhide XN).c4
        have x5 := (unhide XN).c5
        go_wp2
        refine to_wb (fun W => Box W w.heap.size (w.heap.size + 1 + 1) (.slice a0 n0 j0) (.slice a1 n1 j1) (.slice a2 n2 j2) (.slice a3 n3 j3) (.slice a4 n4 j4) (.int .i64 l) ∧ Fin ((NoOk no) ∧ Ok x.b) x.b (EndP x.b no 0 0) w.heap.size a0 a1 a2 a3 a4 n0 n1 n2 n3 n4 j0 j1 j2 j3 j4 l t c W ∧ Below w.heap.size w W) ⟨(box_six (unhide R) _ _ _ _ _ _).1, (unhide FI).six (unhide R) _ _ _ _ _ _, six (unhide B) (by omega) _ _ _ _ _ _⟩ ?_
        rintro W' ⟨X, FJ, B2⟩
        have g0 := X.c0
        have g1 := X.c1
        have g2 := X.c2
        have g3 := X.c3
        have g4 := X.c4
        have g5 := X.c5
        exact bodyPost_ret (v := .tuple #[.agg #[.slice a0 n0 j0, .slice a1 n1 j1, .slice a2 n2 j2, .slice a3 n3 j3, .slice a4 n4 j4, .int .i64 l], .int .i64 c]) (by simp [results, Tryz.results19, go_sem, g0, g1, g2, g3, g4, g5]) rfl (by
            have A := fin_ansB (w := w) (Q := IsCancel x.b no) FJ (Nat.le_refl _) B2 (fun b' t h => cancel_done h) (fun b' t c h hc => cancel_not h hc)
            rcases A with ⟨a, a2, a3⟩ | ⟨a, a2⟩
            · exact .inl ⟨fun hh => a ⟨hh.2, hh.1⟩, a2, a3⟩
            · exact .inr ⟨⟨a.2, a.1⟩, a2⟩)
    · unfold oC10
      go_simp
      have SBA := hide ((unhide SB).step (one_more (w0.drew.alloc (.cells #[.int .i64 no] 3)) (.cells #[.slice none 0 0, .slice none 0 0, .slice none 0 0, .slice none 0 0, .slice none 0 0, .int .i64 0] 40)))
      have V0 := hide (Box.made (w := w0.drew.alloc (.cells #[.int .i64 no] 3)) (base := w.heap.size) (g := w0.heap.size + 1) (.slice none 0 0) (.slice none 0 0) (.slice none 0 0) (.slice none 0 0) (.slice none 0 0) (.int .i64 0) (by simp; omega) (by simp))
      refine hK.out _ _ (unhide SBA).hold (fun hHeld => ?_)
      clear hK K
      try simp only [oC10, Act.put, List.setIfInBounds_toArray, List.set_cons_zero, List.set_cons_succ]
      refine wpAnyH_ready (rs := [3]) (by kernel_rfl) (by simp) ?_
      refine AllReadyH.cons (o := oC3) rfl (fun K hK => ?_) AllReadyH.nil
      unfold oC3
      go_simp
      refine (iNumbers _ (w0.heap.size) 1 1 [no] b1 rfl (by omega) (by first | (simp; done) | (simp; omega)) ((at_new w0.drew [no] _ rfl rfl).below (one_more _ _) (by simp)) (unhide H1)).mono ?_
      rintro e w2 ⟨rfl, bb⟩
      have S2 := hide ((unhide SBA).step bb)
      have z2 : w0.heap.size ≤ w2.heap.size := (by have := bb.size; simp at this; omega)
      have K6 := (unhide S2).hold
      have V0 := hide (Box.below (unhide V0) bb (unhide V0).lt.2)
      clear bb
      go_wp2_with fail
      refine hK.out _ _ K6 (fun hHeld => ?_)
      clear hK K
      try simp only [oC3, Act.put, List.setIfInBounds_toArray, List.set_cons_zero, List.set_cons_succ]
      refine wpAnyH_ready (rs := [5]) (by kernel_rfl) (by simp) ?_
      refine AllReadyH.cons (o := oC5) rfl (fun K hK => ?_) AllReadyH.nil
      unfold oC5
      go_simp
      refine (iCmdW _ x b1 (NoOk no) 67 _ (EndP x.b no 0 0) (unhide S2).r (unhide HT) (fun _ _ => rfl) ((unhide HF) _ (unhide S2) (by first | exact z2 | (simp; omega)))).mono ?_
      intro e w3 hA
      obtain ⟨a0, a1, a2, a3, a4, n0, n1, n2, n3, n4, j0, j1, j2, j3, j4, l, t, c, rfl, fin, bb⟩ := fin_of hA
      have S3 := hide ((unhide S2).step bb)
      have FN := hide (fin.rebase (base' := w.heap.size) (by first | omega | (simp; omega)))
      have z3 : w2.heap.size ≤ w3.heap.size := (by have := bb.size; first | exact this | (simp at this; omega))
      have K7 := (unhide S3).hold
      have V0 := hide (Box.below (unhide V0) bb (unhide V0).lt.2)
      have zv := (unhide V0).lt
      have K8 := (unhide S3).holdG (box_six (unhide V0) (.slice a0 n0 j0) (.slice a1 n1 j1) (.slice a2 n2 j2) (.slice a3 n3 j3) (.slice a4 n4 j4) (.int .i64 l)).2 (by omega)
      have k0 := (unhide V0).c0
      have k1 := (unhide V0).c1
      have k2 := (unhide V0).c2
      have k3 := (unhide V0).c3
      have k4 := (unhide V0).c4
      have k5 := (unhide V0).c5
      have v0 := (unhide V0).free 0
      have v1 := (unhide V0).free 1
      have v2 := (unhide V0).free 2
      have v3 := (unhide V0).free 3
      have v4 := (unhide V0).free 4
      have v5 := (unhide V0).free 5
      clear bb hA fin
      go_wp2_with fail
      refine hK.out _ _ K7 (fun hHeld => ?_)
      clear hK K
      try simp only [oC5, Act.put, List.setIfInBounds_toArray, List.set_cons_zero, List.set_cons_succ]
      refine wpAnyH_take (i := 6) (oi := oC6) (v := .tuple #[.agg #[.slice a0 n0 j0, .slice a1 n1 j1, .slice a2 n2 j2, .slice a3 n3 j3, .slice a4 n4 j4, .int .i64 l], .int .i64 t, .int .i64 c]) rfl (by kernel_rfl) (by kernel_rfl) (by kernel_rfl) (fun _ _ _ h => h) (Or.inl ⟨by rfl, fun w hSw => ?_⟩) hHeld ?_
      · (try dsimp only at hSw)
        unfold oC6
        go_simp
      try simp only [oC6, Act.put, List.setIfInBounds_toArray, List.set_cons_zero, List.set_cons_succ]
      refine wpAnyH_take (i := 7) (oi := oC7) (v := .agg #[.slice a0 n0 j0, .slice a1 n1 j1, .slice a2 n2 j2, .slice a3 n3 j3, .slice a4 n4 j4, .int .i64 l]) rfl (by kernel_rfl) (by kernel_rfl) (by kernel_rfl) (fun _ _ _ h => h) (Or.inl ⟨by rfl, fun w hSw => ?_⟩) hHeld ?_
      · (try dsimp only at hSw)
        unfold oC7
        go_simp
      try simp only [oC7, Act.put, List.setIfInBounds_toArray, List.set_cons_zero, List.set_cons_succ]
      refine wpAnyH_take (i := 8) (oi := oC8) (v := .int .i64 t) rfl (by kernel_rfl) (by kernel_rfl) (by kernel_rfl) (fun _ _ _ h => h) (Or.inl ⟨by rfl, fun w hSw => ?_⟩) hHeld ?_
      · (try dsimp only at hSw)
        unfold oC8
        go_simp
      try simp only [oC8, Act.put, List.setIfInBounds_toArray, List.set_cons_zero, List.set_cons_succ]
      refine wpAnyH_take (i := 9) (oi := oC9) (v := .int .i64 c) rfl (by kernel_rfl) (by kernel_rfl) (by kernel_rfl) (fun _ _ _ h => h) (Or.inl ⟨by rfl, fun w hSw => ?_⟩) hHeld ?_
      · (try dsimp only at hSw)
        unfold oC9
        go_simp
      try simp only [oC9, Act.put, List.setIfInBounds_toArray, List.set_cons_zero, List.set_cons_succ]
      refine wpAnyH_ready (rs := [11]) (by kernel_rfl) (by simp) ?_
      refine AllReadyH.cons (o := oC11) rfl (fun K hK => ?_) AllReadyH.nil
      unfold oC11
      go_simp
      refine hK.out _ _ K8 (fun hHeld => ?_)
      clear hK K
      try simp only [oC11, Act.put, List.setIfInBounds_toArray, List.set_cons_zero, List.set_cons_succ]
      refine wpAnyH_take (i := 12) (oi := oC12) (v := .int .i64 t) rfl (by kernel_rfl) (by kernel_rfl) (by kernel_rfl) (fun _ _ _ h => h) (Or.inl ⟨by rfl, fun w hSw => ?_⟩) hHeld ?_
      · (try dsimp only at hSw)
        unfold oC12
        go_simp
      try simp only [oC12, Act.put, List.setIfInBounds_toArray, List.set_cons_zero, List.set_cons_succ]
      refine wpAnyH_take (i := 13) (oi := oC13) (v := .int .i64 c) rfl (by kernel_rfl) (by kernel_rfl) (by kernel_rfl) (fun _ _ _ h => h) (Or.inl ⟨by rfl, fun w hSw => ?_⟩) hHeld ?_
      · (try dsimp only at hSw)
        unfold oC13
        go_simp
      try simp only [oC13, Act.put, List.setIfInBounds_toArray, List.set_cons_zero, List.set_cons_succ]
      refine wpAnyH_done (by kernel_rfl) ?_ _
      refine to_wc (fun W => Box W w.heap.size (w.heap.size + 1 + 1) (.slice none 0 0) (.slice none 0 0) (.slice none 0 0) (.slice none 0 0) (.slice none 0 0) (.int .i64 0) ∧ Box W w.heap.size (w0.heap.size + 1) (.slice a0 n0 j0) (.slice a1 n1 j1) (.slice a2 n2 j2) (.slice a3 n3 j3) (.slice a4 n4 j4) (.int .i64 l) ∧ Fin ((NoOk no) ∧ Ok x.b) x.b (EndP x.b no 0 0) w.heap.size a0 a1 a2 a3 a4 n0 n1 n2 n3 n4 j0 j1 j2 j3 j4 l t c W ∧ Below w.heap.size w W) ⟨(unhide S3).v.kept (box_six (unhide V0) _ _ _ _ _ _).2 (fun e => by injection e; omega), (box_six (unhide V0) _ _ _ _ _ _).1, (unhide FN).six (unhide V0) _ _ _ _ _ _, six (unhide S3).b (by omega) _ _ _ _ _ _⟩ ?_
      clear HF HT
      rintro W ⟨R', X', FI', B'⟩
      have R := hide R'
      have XN := hide X'
      have FI := hide FI'
      have B := hide B'
      clear R' X' FI' B'
      clear k0 k1 k2 k3 k4 k5 v0 v1 v2 v3 v4 v5 V0
      have r0 := (unhide R).c0
      have r1 := (unhide R).c1
      have r2 := (unhide R).c2
      have r3 := (unhide R).c3
      have r4 := (unhide R).c4
      have r5 := (unhide R).c5
      have f0 := (unhide R).free 0
      have f1 := (unhide R).free 1
      have f2 := (unhide R).free 2
      have f3 := (unhide R).free 3
      have f4 := (unhide R).free 4
      have f5 := (unhide R).free 5
      have x0 := (unhide XN).c0
      have x1 := (unhide XN).c1
      have x2 := (unhide XN).c2
      have x3 := (unhide XN).c3
      have x4 := (unhide XN).c4
      have x5 := (unhide XN).c5
      go_wp2
      refine to_wb (fun W => Box W w.heap.size (w.heap.size + 1 + 1) (.slice a0 n0 j0) (.slice a1 n1 j1) (.slice a2 n2 j2) (.slice a3 n3 j3) (.slice a4 n4 j4) (.int .i64 l) ∧ Fin ((NoOk no) ∧ Ok x.b) x.b (EndP x.b no 0 0) w.heap.size a0 a1 a2 a3 a4 n0 n1 n2 n3 n4 j0 j1 j2 j3 j4 l t c W ∧ Below w.heap.size w W) ⟨(box_six (unhide R) _ _ _ _ _ _).1, (unhide FI).six (unhide R) _ _ _ _ _ _, six (unhide B) (by omega) _ _ _ _ _ _⟩ ?_
      rintro W' ⟨X, FJ, B2⟩
      have g0 := X.c0
      have g1 := X.c1
      have g2 := X.c2
      have g3 := X.c3
      have g4 := X.c4
      have g5 := X.c5
      exact bodyPost_ret (v := .tuple #[.agg #[.slice a0 n0 j0, .slice a1 n1 j1, .slice a2 n2 j2, .slice a3 n3 j3, .slice a4 n4 j4, .int .i64 l], .int .i64 c]) (by simp [results, Tryz.results19, go_sem, g0, g1, g2, g3, g4, g5]) rfl (by
          have A := fin_ansB (w := w) (Q := IsCancel x.b no) FJ (Nat.le_refl _) B2 (fun b' t h => cancel_done h) (fun b' t c h hc => cancel_not h hc)
          rcases A with ⟨a, a2, a3⟩ | ⟨a, a2⟩
          · exact .inl ⟨fun hh => a ⟨hh.2, hh.1⟩, a2, a3⟩
          · exact .inr ⟨⟨a.2, a.1⟩, a2⟩)
  · unfold oC10
    go_simp
    have SA := hide (((unhide S0).step (Below.refl _ _).drew).step (one_more w0.drew (.cells #[.slice none 0 0, .slice none 0 0, .slice none 0 0, .slice none 0 0, .slice none 0 0, .int .i64 0] 40)))
    have V0 := hide (Box.made (w := w0.drew) (base := w.heap.size) (g := w0.heap.size) (.slice none 0 0) (.slice none 0 0) (.slice none 0 0) (.slice none 0 0) (.slice none 0 0) (.int .i64 0) (by simp; omega) rfl)
    refine hK.out _ _ (unhide SA).hold (fun hHeld => ?_)
    clear hK K
    try simp only [oC10, Act.put, List.setIfInBounds_toArray, List.set_cons_zero, List.set_cons_succ]
    refine wpAnyH_ready (rs := [2]) (by kernel_rfl) (by simp) ?_
    refine AllReadyH.cons (o := oC2) rfl (fun K hK => ?_) AllReadyH.nil
    unfold oC2
    go_simp
    have SAB := hide ((unhide SA).step (one_more (w0.drew.alloc (.cells #[.slice none 0 0, .slice none 0 0, .slice none 0 0, .slice none 0 0, .slice none 0 0, .int .i64 0] 40)) (.cells #[.int .i64 no] 3)))
    have V0 := hide (Box.below (unhide V0) (one_more _ (.cells #[.int .i64 no] 3)) (unhide V0).lt.2)
    refine hK.out _ _ (unhide SAB).hold (fun hHeld => ?_)
    clear hK K
    try simp only [oC2, Act.put, List.setIfInBounds_toArray, List.set_cons_zero, List.set_cons_succ]
    refine wpAnyH_ready (rs := [3]) (by kernel_rfl) (by simp) ?_
    refine AllReadyH.cons (o := oC3) rfl (fun K hK => ?_) AllReadyH.nil
    unfold oC3
    go_simp
    refine (iNumbers _ (w0.heap.size + 1) 1 1 [no] b1 rfl (by omega) (by first | (simp; done) | (simp; omega)) (at_new (w0.drew.alloc (.cells #[.slice none 0 0, .slice none 0 0, .slice none 0 0, .slice none 0 0, .slice none 0 0, .int .i64 0] 40)) [no] _ (by simp) rfl) (unhide H1)).mono ?_
    rintro e w2 ⟨rfl, bb⟩
    have S2 := hide ((unhide SAB).step bb)
    have z2 : w0.heap.size ≤ w2.heap.size := (by have := bb.size; simp at this; omega)
    have K6 := (unhide S2).hold
    have V0 := hide (Box.below (unhide V0) bb (unhide V0).lt.2)
    clear bb
    go_wp2_with fail
    refine hK.out _ _ K6 (fun hHeld => ?_)
    clear hK K
    try simp only [oC3, Act.put, List.setIfInBounds_toArray, List.set_cons_zero, List.set_cons_succ]
    refine wpAnyH_ready (rs := [5]) (by kernel_rfl) (by simp) ?_
    refine AllReadyH.cons (o := oC5) rfl (fun K hK => ?_) AllReadyH.nil
    unfold oC5
    go_simp
    refine (iCmdW _ x b1 (NoOk no) 67 _ (EndP x.b no 0 0) (unhide S2).r (unhide HT) (fun _ _ => rfl) ((unhide HF) _ (unhide S2) (by first | exact z2 | (simp; omega)))).mono ?_
    intro e w3 hA
    obtain ⟨a0, a1, a2, a3, a4, n0, n1, n2, n3, n4, j0, j1, j2, j3, j4, l, t, c, rfl, fin, bb⟩ := fin_of hA
    have S3 := hide ((unhide S2).step bb)
    have FN := hide (fin.rebase (base' := w.heap.size) (by first | omega | (simp; omega)))
    have z3 : w2.heap.size ≤ w3.heap.size := (by have := bb.size; first | exact this | (simp at this; omega))
    have K7 := (unhide S3).hold
    have V0 := hide (Box.below (unhide V0) bb (unhide V0).lt.2)
    have zv := (unhide V0).lt
    have K8 := (unhide S3).holdG (box_six (unhide V0) (.slice a0 n0 j0) (.slice a1 n1 j1) (.slice a2 n2 j2) (.slice a3 n3 j3) (.slice a4 n4 j4) (.int .i64 l)).2 (by omega)
    have k0 := (unhide V0).c0
    have k1 := (unhide V0).c1
    have k2 := (unhide V0).c2
    have k3 := (unhide V0).c3
    have k4 := (unhide V0).c4
    have k5 := (unhide V0).c5
    have v0 := (unhide V0).free 0
    have v1 := (unhide V0).free 1
    have v2 := (unhide V0).free 2
    have v3 := (unhide V0).free 3
    have v4 := (unhide V0).free 4
    have v5 := (unhide V0).free 5
    clear bb hA fin
    go_wp2_with fail
    refine hK.out _ _ K7 (fun hHeld => ?_)
    clear hK K
    try simp only [oC5, Act.put, List.setIfInBounds_toArray, List.set_cons_zero, List.set_cons_succ]
    refine wpAnyH_take (i := 6) (oi := oC6) (v := .tuple #[.agg #[.slice a0 n0 j0, .slice a1 n1 j1, .slice a2 n2 j2, .slice a3 n3 j3, .slice a4 n4 j4, .int .i64 l], .int .i64 t, .int .i64 c]) rfl (by kernel_rfl) (by kernel_rfl) (by kernel_rfl) (fun _ _ _ h => h) (Or.inl ⟨by rfl, fun w hSw => ?_⟩) hHeld ?_
    · (try dsimp only at hSw)
      unfold oC6
      go_simp
    try simp only [oC6, Act.put, List.setIfInBounds_toArray, List.set_cons_zero, List.set_cons_succ]
    refine wpAnyH_take (i := 7) (oi := oC7) (v := .agg #[.slice a0 n0 j0, .slice a1 n1 j1, .slice a2 n2 j2, .slice a3 n3 j3, .slice a4 n4 j4, .int .i64 l]) rfl (by kernel_rfl) (by kernel_rfl) (by kernel_rfl) (fun _ _ _ h => h) (Or.inl ⟨by rfl, fun w hSw => ?_⟩) hHeld ?_
    · (try dsimp only at hSw)
      unfold oC7
      go_simp
    try simp only [oC7, Act.put, List.setIfInBounds_toArray, List.set_cons_zero, List.set_cons_succ]
    refine wpAnyH_take (i := 8) (oi := oC8) (v := .int .i64 t) rfl (by kernel_rfl) (by kernel_rfl) (by kernel_rfl) (fun _ _ _ h => h) (Or.inl ⟨by rfl, fun w hSw => ?_⟩) hHeld ?_
    · (try dsimp only at hSw)
      unfold oC8
      go_simp
    try simp only [oC8, Act.put, List.setIfInBounds_toArray, List.set_cons_zero, List.set_cons_succ]
    refine wpAnyH_take (i := 9) (oi := oC9) (v := .int .i64 c) rfl (by kernel_rfl) (by kernel_rfl) (by kernel_rfl) (fun _ _ _ h => h) (Or.inl ⟨by rfl, fun w hSw => ?_⟩) hHeld ?_
    · (try dsimp only at hSw)
      unfold oC9
      go_simp
    try simp only [oC9, Act.put, List.setIfInBounds_toArray, List.set_cons_zero, List.set_cons_succ]
    refine wpAnyH_ready (rs := [11]) (by kernel_rfl) (by simp) ?_
    refine AllReadyH.cons (o := oC11) rfl (fun K hK => ?_) AllReadyH.nil
    unfold oC11
    go_simp
    refine hK.out _ _ K8 (fun hHeld => ?_)
    clear hK K
    try simp only [oC11, Act.put, List.setIfInBounds_toArray, List.set_cons_zero, List.set_cons_succ]
    refine wpAnyH_take (i := 12) (oi := oC12) (v := .int .i64 t) rfl (by kernel_rfl) (by kernel_rfl) (by kernel_rfl) (fun _ _ _ h => h) (Or.inl ⟨by rfl, fun w hSw => ?_⟩) hHeld ?_
    · (try dsimp only at hSw)
      unfold oC12
      go_simp
    try simp only [oC12, Act.put, List.setIfInBounds_toArray, List.set_cons_zero, List.set_cons_succ]
    refine wpAnyH_take (i := 13) (oi := oC13) (v := .int .i64 c) rfl (by kernel_rfl) (by kernel_rfl) (by kernel_rfl) (fun _ _ _ h => h) (Or.inl ⟨by rfl, fun w hSw => ?_⟩) hHeld ?_
    · (try dsimp only at hSw)
      unfold oC13
      go_simp
    try simp only [oC13, Act.put, List.setIfInBounds_toArray, List.set_cons_zero, List.set_cons_succ]
    refine wpAnyH_done (by kernel_rfl) ?_ _
    refine to_wc (fun W => Box W w.heap.size (w.heap.size + 1 + 1) (.slice none 0 0) (.slice none 0 0) (.slice none 0 0) (.slice none 0 0) (.slice none 0 0) (.int .i64 0) ∧ Box W w.heap.size (w0.heap.size) (.slice a0 n0 j0) (.slice a1 n1 j1) (.slice a2 n2 j2) (.slice a3 n3 j3) (.slice a4 n4 j4) (.int .i64 l) ∧ Fin ((NoOk no) ∧ Ok x.b) x.b (EndP x.b no 0 0) w.heap.size a0 a1 a2 a3 a4 n0 n1 n2 n3 n4 j0 j1 j2 j3 j4 l t c W ∧ Below w.heap.size w W) ⟨(unhide S3).v.kept (box_six (unhide V0) _ _ _ _ _ _).2 (fun e => by injection e; omega), (box_six (unhide V0) _ _ _ _ _ _).1, (unhide FN).six (unhide V0) _ _ _ _ _ _, six (unhide S3).b (by omega) _ _ _ _ _ _⟩ ?_
    clear HF HT
    rintro W ⟨R', X', FI', B'⟩
    have R := hide R'
    have XN := hide X'
    have FI := hide FI'
    have B := hide B'
    clear R' X' FI' B'
    clear k0 k1 k2 k3 k4 k5 v0 v1 v2 v3 v4 v5 V0
    have r0 := (unhide R).c0
    have r1 := (unhide R).c1
    have r2 := (unhide R).c2
    have r3 := (unhide R).c3
    have r4 := (unhide R).c4
    have r5 := (unhide R).c5
    have f0 := (unhide R).free 0
    have f1 := (unhide R).free 1
    have f2 := (unhide R).free 2
    have f3 := (unhide R).free 3
    have f4 := (unhide R).free 4
    have f5 := (unhide R).free 5
    have x0 := (unhide XN).c0
    have x1 := (unhide XN).c1
    have x2 := (unhide XN).c2
    have x3 := (unhide XN).c3
    have x4 := (unhide XN).c4
    have x5 := (unhide XN).c5
    go_wp2
    refine to_wb (fun W => Box W w.heap.size (w.heap.size + 1 + 1) (.slice a0 n0 j0) (.slice a1 n1 j1) (.slice a2 n2 j2) (.slice a3 n3 j3) (.slice a4 n4 j4) (.int .i64 l) ∧ Fin ((NoOk no) ∧ Ok x.b) x.b (EndP x.b no 0 0) w.heap.size a0 a1 a2 a3 a4 n0 n1 n2 n3 n4 j0 j1 j2 j3 j4 l t c W ∧ Below w.heap.size w W) ⟨(box_six (unhide R) _ _ _ _ _ _).1, (unhide FI).six (unhide R) _ _ _ _ _ _, six (unhide B) (by omega) _ _ _ _ _ _⟩ ?_
    rintro W' ⟨X, FJ, B2⟩
    have g0 := X.c0
    have g1 := X.c1
    have g2 := X.c2
    have g3 := X.c3
    have g4 := X.c4
    have g5 := X.c5
    exact bodyPost_ret (v := .tuple #[.agg #[.slice a0 n0 j0, .slice a1 n1 j1, .slice a2 n2 j2, .slice a3 n3 j3, .slice a4 n4 j4, .int .i64 l], .int .i64 c]) (by simp [results, Tryz.results19, go_sem, g0, g1, g2, g3, g4, g5]) rfl (by
        have A := fin_ansB (w := w) (Q := IsCancel x.b no) FJ (Nat.le_refl _) B2 (fun b' t h => cancel_done h) (fun b' t c h hc => cancel_not h hc)
        rcases A with ⟨a, a2, a3⟩ | ⟨a, a2⟩
        · exact .inl ⟨fun hh => a ⟨hh.2, hh.1⟩, a2, a3⟩
        · exact .inr ⟨⟨a.2, a.1⟩, a2⟩)
end Go.Proofs.YteooapfmiammlaaGreat.CancelTellI
namespace Go.Proofs.YteooapfmiammlaaGreat.TradeApp
open Go.ChangeShapes Go.WideShapes Go.ChangeAt Go.RowKit Tup8
theorem info2 : (Tryz.prog.info? 31).map (fun i => (i.zero, i.size, i.bytes)) = some (some (.agg #[.int .i64 0, .int .i64 0, .int .i64 0, .int .i64 0, .int .i64 0, .int .i64 0, .int .i64 0, .int .i64 0]), 8, 64) := by kernel_rfl
theorem wp_app (u : World) {ops : Array Oper} {rest : List Oper} {o : Oper} {a : Act} {Q : Exit → Act → World → Prop} (hgd : o.guard = none) (s x : Operand)
    (ho : o.op = .call { callee := .builtin .append, args := #[s, x], argTypes := #[38, 38] }) (base g n cap : Nat) (ps : List T8) (vb : Nat) (x0 x1 x2 x3 x4 x5 x6 x7 : Int)
    (hs : a.eval s = .slice (some ⟨g, 0, none⟩) n cap) (hx : a.eval x = .slice (some ⟨vb, 0, none⟩) 1 1) (hown : Own8 31 u base g n cap ps) (hv : Holds8 u vb 0 (x0, x1, x2, x3, x4, x5, x6, x7)) (hn : n ≤ 1048576) (hb : base ≤ u.heap.size)
    (h : ∀ g' c' w', Own8 31 w' base g' (n + 1) c' (ps ++ [(x0, x1, x2, x3, x4, x5, x6, x7)]) → u.grownBy w' (some g) → (g' = g ∨ g' = u.heap.size) → wpList Tryz.prog ops Q rest (a.put o.dst (.slice (some ⟨g', 0, none⟩) (n + 1) c')) w') : wpList Tryz.prog ops Q (o :: rest) a u := by
  obtain ⟨i0, hi, hz0, hz1, hz2⟩ := info_parts info2
  have hat : At8 u vb [(x0, x1, x2, x3, x4, x5, x6, x7)] := by
    intro i hi
    obtain rfl : i = 0 := by simpa using hi
    exact hv
  refine wpList_append_own_at u hgd s x 38 ho base 31 i0 (.agg #[.int .i64 0, .int .i64 0, .int .i64 0, .int .i64 0, .int .i64 0, .int .i64 0, .int .i64 0, .int .i64 0]) 8 64 Tryz.underlying38 hi hz0 hz1 hz2 rfl (by decide) _ n _ hs hown ⟨vb, 0, none⟩ 1 1 (flat8 [(x0, x1, x2, x3, x4, x5, x6, x7)]) hx rfl hat.cells (fun u hu => flat8_one u _ hu) (by unfold maxLen; omega) (by omega) hb ?_
  intro v' w' own' gr' nil' loc'
  obtain ⟨g', c', rfl, o'⟩ := own8_of_row (n' := n + 1) (ps := ps ++ [(x0, x1, x2, x3, x4, x5, x6, x7)]) own' rfl (by rw [flat8_append]) (by rw [nil']; simp)
  exact h g' c' w' o' gr' (by simpa [Value.ownBlock] using loc')
end Go.Proofs.YteooapfmiammlaaGreat.TradeApp
namespace Go.Proofs.YteooapfmiammlaaGreat.STrade
open Go.ChangeShapes Go.WideShapes Go.ChangeAt Go.RowKit BMem Bks ILists BHelp Ans Trd TBox
open IBalsFit (one_more)
open Lots (Says says_of NoOk)
open Tup8 (T8 el8 Own8)
open SIssue (to_wb off_box eq_false eq_true ne_false ne_true)
/-- What is asked of a trade's arguments. -/
def ToldN (b : Bk) (no fb fs fp fq fc fr : Int) : Prop := Ok b ∧ NoOk no ∧ NoOk fb ∧ NoOk fs ∧ NoOk fp ∧ (1 ≤ fq ∧ fq ≤ 1000000000000000) ∧ NoOk fc ∧ (0 ≤ fr ∧ fr ≤ 1000000000000000)
/-- The trades so far, with t among them or not yet. -/
def Ins (t : T8) (l : List T8) (put : Bool) (qs : List T8) : Prop := (put = false ∧ qs = l ∧ ∀ q ∈ l, ¬ t.1 < q.1) ∨ (put = true ∧ qs = insT t l ∧ ∃ q ∈ l, t.1 < q.1)
theorem Ins.here {t q : T8} {l qs : List T8} (h : Ins t l false qs) (g : t.1 < q.1) : Ins t (l ++ [q]) true (qs ++ [t] ++ [q]) := by
  rcases h with ⟨_, rfl, h⟩ | ⟨h, _⟩
  · exact .inr ⟨rfl, (ins_here t q qs h g).symm, q, by simp, g⟩
  · cases h
theorem Ins.past {t q : T8} {l qs : List T8} (h : Ins t l false qs) (g : ¬ t.1 < q.1) : Ins t (l ++ [q]) false (qs ++ [q]) := by
  rcases h with ⟨_, rfl, h⟩ | ⟨h, _⟩
  · refine .inl ⟨rfl, rfl, fun p hp => ?_⟩
    rcases List.mem_append.1 hp with hp | hp
    · exact h p hp
    · rw [List.mem_singleton.1 hp]; exact g
  · cases h
theorem Ins.more {t q : T8} {l qs : List T8} (h : Ins t l true qs) : Ins t (l ++ [q]) true (qs ++ [q]) := by
  rcases h with ⟨h, _⟩ | ⟨_, rfl, p, hp, g⟩
  · cases h
  · exact .inr ⟨rfl, (ins_some t l [q] ⟨p, hp, g⟩).symm, p, by simp [hp], g⟩
theorem Ins.last {t : T8} {l qs : List T8} (h : Ins t l false qs) : qs ++ [t] = insT t l := by
  rcases h with ⟨_, rfl, h⟩ | ⟨h, _⟩
  · exact (ins_none t qs h).symm
  · cases h
theorem Ins.len {t : T8} {l qs : List T8} (h : Ins t l false qs) : qs.length = l.length := by
  rcases h with ⟨_, rfl, h⟩ | ⟨h, _⟩
  · rfl
  · cases h
theorem Ins.all {t : T8} {l qs : List T8} (h : Ins t l true qs) : qs = insT t l := by
  rcases h with ⟨h, _⟩ | ⟨_, rfl, _⟩
  · cases h
  · rfl
theorem ow_below_up {w w' : World} {base B : Nat} {x : Bx} (h : Ow w base x) (k : Below B w w') (u : Up x B) : Ow w' base x := ⟨h.oa.below k u.1, h.oi.below k u.2.1, h.ob.below k u.2.2.1, h.ol.below k u.2.2.2.1, h.ot.below k u.2.2.2.2⟩
theorem up_mono {x : Bx} {N M : Nat} (h : Up x N) (k : N ≤ M) : Up x M := by
  unfold Up at *
  omega
/-- Books with another list of trades. -/
abbrev withT (x : Bx) (g c : Nat) (qs : List T8) : Bx := { x with gt := g, ct := c, b := { x.b with ts := qs } }
theorem ow_withT {w : World} {base g c : Nat} {x : Bx} {qs : List T8} (h : Ow w base x) (o : Own8 31 w base g qs.length c qs) : Ow w base (withT x g c qs) := ⟨h.oa, h.oi, h.ob, h.ol, o⟩
set_option maxRecDepth 100000 in
set_option maxHeartbeats 32000000 in
theorem sTrade (w : World) (x : Bx) (no fb fs fp fq fc fr : Int) (hr : Rd w x) :
    Calls Tryz.prog 14 #[.agg #[.slice (some ⟨x.ga, 0, none⟩) x.b.ac.length x.ca, .slice (some ⟨x.gi, 0, none⟩) x.b.ic.length x.ci, .slice (some ⟨x.gb, 0, none⟩) x.b.bs.length x.cb, .slice (some ⟨x.gl, 0, none⟩) x.b.ls.length x.cl, .slice (some ⟨x.gt, 0, none⟩) x.b.ts.length x.ct, .int .i64 x.b.lot], .int .i64 no, .int .i64 fb, .int .i64 fs, .int .i64 fp, .int .i64 fq, .int .i64 fc, .int .i64 fr] w (AnsB (ToldN x.b no fb fs fp fq fc fr) (IsTrade x.b no fb fs fp fq fc fr) w) := by
  obtain ⟨b0, h0⟩ := says_of (Ok x.b)
  obtain ⟨b1, h1⟩ := says_of (NoOk no)
  obtain ⟨b2, h2⟩ := says_of (NoOk fb)
  obtain ⟨b3, h3⟩ := says_of (NoOk fs)
  obtain ⟨b4, h4⟩ := says_of (NoOk fp)
  obtain ⟨b5, h5⟩ := says_of (1 ≤ fq ∧ fq ≤ 1000000000000000)
  obtain ⟨b6, h6⟩ := says_of (NoOk fc)
  obtain ⟨b7, h7⟩ := says_of (0 ≤ fr ∧ fr ≤ 1000000000000000)
  have H0 := hide h0
  have H1 := hide h1
  have H2 := hide h2
  have H3 := hide h3
  have H4 := hide h4
  have H5 := hide h5
  have H6 := hide h6
  have H7 := hide h7
  have S0 := hide (SR.start hr)
  have HR := hide hr
  clear h0 h1 h2 h3 h4 h5 h6 h7 hr
  go_enter Tryz.func14, Tryz.ntmps14
  go_wp2_with fail
  refine (SBooksOk.sBooksOk _ x b0 (unhide S0).r (unhide H0)).mono ?_
  rintro e w1 ⟨rfl, bb⟩
  have S1 := hide ((unhide S0).step bb)
  have B1 := hide (unhide S1).b
  clear bb
  obtain ⟨c0, c1, c2, c3, c4, c5⟩ := (unhide S1).c
  have r0 := (unhide S1).v.c0
  have r1 := (unhide S1).v.c1
  have r2 := (unhide S1).v.c2
  have r3 := (unhide S1).v.c3
  have r4 := (unhide S1).v.c4
  have r5 := (unhide S1).v.c5
  have f0 := (unhide S1).v.free 0
  have f1 := (unhide S1).v.free 1
  have f2 := (unhide S1).v.free 2
  have f3 := (unhide S1).v.free 3
  have f4 := (unhide S1).v.free 4
  have f5 := (unhide S1).v.free 5
  cases b0
  · have N := hide (show ¬ ToldN x.b no fb fs fp fq fc fr from fun hh => (unhide H0).no hh.1)
    go_wp2
    refine bodyPost_ret (v := .tuple #[.agg #[.slice none 0 0, .slice none 0 0, .slice none 0 0, .slice none 0 0, .slice none 0 0, .int .i64 0], .int .i64 1]) (by simp [results, Tryz.results14, go_sem, r0, r1, r2, r3, r4, r5]) rfl (.inl ⟨unhide N, rfl, ?_⟩)
    exact six (unhide B1) (by omega) _ _ _ _ _ _
  go_wp2_with fail
  refine (SOk5.sNo no b1 _ (unhide H1)).mono ?_
  rintro e v1 ⟨rfl, rfl⟩
  cases b1
  · have N := hide (show ¬ ToldN x.b no fb fs fp fq fc fr from fun hh => (unhide H1).no hh.2.1)
    go_wp2
    refine bodyPost_ret (v := .tuple #[.agg #[.slice none 0 0, .slice none 0 0, .slice none 0 0, .slice none 0 0, .slice none 0 0, .int .i64 0], .int .i64 1]) (by simp [results, Tryz.results14, go_sem, r0, r1, r2, r3, r4, r5]) rfl (.inl ⟨unhide N, rfl, ?_⟩)
    exact six (unhide B1) (by omega) _ _ _ _ _ _
  go_wp2_with fail
  refine (SOk5.sNo fb b2 _ (unhide H2)).mono ?_
  rintro e v2 ⟨rfl, rfl⟩
  cases b2
  · have N := hide (show ¬ ToldN x.b no fb fs fp fq fc fr from fun hh => (unhide H2).no hh.2.2.1)
    go_wp2
    refine bodyPost_ret (v := .tuple #[.agg #[.slice none 0 0, .slice none 0 0, .slice none 0 0, .slice none 0 0, .slice none 0 0, .int .i64 0], .int .i64 1]) (by simp [results, Tryz.results14, go_sem, r0, r1, r2, r3, r4, r5]) rfl (.inl ⟨unhide N, rfl, ?_⟩)
    exact six (unhide B1) (by omega) _ _ _ _ _ _
  go_wp2_with fail
  refine (SOk5.sNo fs b3 _ (unhide H3)).mono ?_
  rintro e v3 ⟨rfl, rfl⟩
  cases b3
  · have N := hide (show ¬ ToldN x.b no fb fs fp fq fc fr from fun hh => (unhide H3).no hh.2.2.2.1)
    go_wp2
    refine bodyPost_ret (v := .tuple #[.agg #[.slice none 0 0, .slice none 0 0, .slice none 0 0, .slice none 0 0, .slice none 0 0, .int .i64 0], .int .i64 1]) (by simp [results, Tryz.results14, go_sem, r0, r1, r2, r3, r4, r5]) rfl (.inl ⟨unhide N, rfl, ?_⟩)
    exact six (unhide B1) (by omega) _ _ _ _ _ _
  go_wp2_with fail
  refine (SOk5.sNo fp b4 _ (unhide H4)).mono ?_
  rintro e v4 ⟨rfl, rfl⟩
  cases b4
  · have N := hide (show ¬ ToldN x.b no fb fs fp fq fc fr from fun hh => (unhide H4).no hh.2.2.2.2.1)
    go_wp2
    refine bodyPost_ret (v := .tuple #[.agg #[.slice none 0 0, .slice none 0 0, .slice none 0 0, .slice none 0 0, .slice none 0 0, .int .i64 0], .int .i64 1]) (by simp [results, Tryz.results14, go_sem, r0, r1, r2, r3, r4, r5]) rfl (.inl ⟨unhide N, rfl, ?_⟩)
    exact six (unhide B1) (by omega) _ _ _ _ _ _
  go_wp2_with fail
  refine (SOk5.sSome fq 1 b5 _ (unhide H5)).mono ?_
  rintro e v5 ⟨rfl, rfl⟩
  cases b5
  · have N := hide (show ¬ ToldN x.b no fb fs fp fq fc fr from fun hh => (unhide H5).no hh.2.2.2.2.2.1)
    go_wp2
    refine bodyPost_ret (v := .tuple #[.agg #[.slice none 0 0, .slice none 0 0, .slice none 0 0, .slice none 0 0, .slice none 0 0, .int .i64 0], .int .i64 1]) (by simp [results, Tryz.results14, go_sem, r0, r1, r2, r3, r4, r5]) rfl (.inl ⟨unhide N, rfl, ?_⟩)
    exact six (unhide B1) (by omega) _ _ _ _ _ _
  go_wp2_with fail
  refine (SOk5.sNo fc b6 _ (unhide H6)).mono ?_
  rintro e v6 ⟨rfl, rfl⟩
  cases b6
  · have N := hide (show ¬ ToldN x.b no fb fs fp fq fc fr from fun hh => (unhide H6).no hh.2.2.2.2.2.2.1)
    go_wp2
    refine bodyPost_ret (v := .tuple #[.agg #[.slice none 0 0, .slice none 0 0, .slice none 0 0, .slice none 0 0, .slice none 0 0, .int .i64 0], .int .i64 1]) (by simp [results, Tryz.results14, go_sem, r0, r1, r2, r3, r4, r5]) rfl (.inl ⟨unhide N, rfl, ?_⟩)
    exact six (unhide B1) (by omega) _ _ _ _ _ _
  go_wp2_with fail
  refine (SOk5.sSome fr 0 b7 _ (unhide H7)).mono ?_
  rintro e v7 ⟨rfl, rfl⟩
  cases b7
  · have N := hide (show ¬ ToldN x.b no fb fs fp fq fc fr from fun hh => (unhide H7).no hh.2.2.2.2.2.2.2)
    go_wp2
    refine bodyPost_ret (v := .tuple #[.agg #[.slice none 0 0, .slice none 0 0, .slice none 0 0, .slice none 0 0, .slice none 0 0, .int .i64 0], .int .i64 1]) (by simp [results, Tryz.results14, go_sem, r0, r1, r2, r3, r4, r5]) rfl (.inl ⟨unhide N, rfl, ?_⟩)
    exact six (unhide B1) (by omega) _ _ _ _ _ _
  have TT := hide (show ToldN x.b no fb fs fp fq fc fr from ⟨(unhide H0).yes, (unhide H1).yes, (unhide H2).yes, (unhide H3).yes, (unhide H4).yes, (unhide H5).yes, (unhide H6).yes, (unhide H7).yes⟩)
  have LI := hide (unhide H0).yes.1
  have tl : x.b.ts.length ≤ 30 := (unhide H0).yes.1.2.2.2.2.1.1
  clear H0 H1 H2 H3 H4 H5 H6 H7 S0
  go_wp2_with fail
  refine (SCopy.sCopy _ x (unhide S1).r).mono ?_
  rintro e w3 ⟨z, hz, rfl, oz, bb⟩
  have S3 := hide ((unhide S1).step bb)
  have S4 := hide ((unhide S3).step (one_more w3 (.cells #[.slice (some ⟨z.ga, 0, none⟩) z.b.ac.length z.ca, .slice (some ⟨z.gi, 0, none⟩) z.b.ic.length z.ci, .slice (some ⟨z.gb, 0, none⟩) z.b.bs.length z.cb, .slice (some ⟨z.gl, 0, none⟩) z.b.ls.length z.cl, .slice (some ⟨z.gt, 0, none⟩) z.b.ts.length z.ct, .int .i64 z.b.lot] 40)))
  have V4 := hide (Box.made (w := w3) (base := w.heap.size) (g := w3.heap.size) (.slice (some ⟨z.ga, 0, none⟩) z.b.ac.length z.ca) (.slice (some ⟨z.gi, 0, none⟩) z.b.ic.length z.ci) (.slice (some ⟨z.gb, 0, none⟩) z.b.bs.length z.cb) (.slice (some ⟨z.gl, 0, none⟩) z.b.ls.length z.cl) (.slice (some ⟨z.gt, 0, none⟩) z.b.ts.length z.ct) (.int .i64 z.b.lot) (unhide S3).b.size rfl)
  have O4 := hide (ow_alloc (oz.rebase (unhide S1).b.size) (.cells #[.slice (some ⟨z.ga, 0, none⟩) z.b.ac.length z.ca, .slice (some ⟨z.gi, 0, none⟩) z.b.ic.length z.ci, .slice (some ⟨z.gb, 0, none⟩) z.b.bs.length z.cb, .slice (some ⟨z.gl, 0, none⟩) z.b.ls.length z.cl, .slice (some ⟨z.gt, 0, none⟩) z.b.ts.length z.ct, .int .i64 z.b.lot] 40))
  have HZ := hide hz
  have l3 := (unhide S3).v.lt
  have n3 : w.heap.size + 1 ≠ w3.heap.size := by omega
  have n4 : w.heap.size ≠ w3.heap.size := by omega
  clear bb oz hz S3
  clear c0 c1 c2 c3 c4 c5 r0 r1 r2 r3 r4 r5 f0 f1 f2 f3 f4 f5
  obtain ⟨K1, hK1⟩ : ∃ K, Hid (kindOf x.b.ac fb = K) := ⟨_, rfl⟩
  obtain ⟨K2, hK2⟩ : ∃ K, Hid (kindOf x.b.ac fs = K) := ⟨_, rfl⟩
  obtain ⟨K3, hK3⟩ : ∃ K, Hid (kindOf x.b.ic fp = K) := ⟨_, rfl⟩
  obtain ⟨K4, hK4⟩ : ∃ K, Hid (kindOf x.b.ic fc = K) := ⟨_, rfl⟩
  have M1 := trivial
  go_wp2_with fail
  generalize w3.alloc (.cells #[.slice (some ⟨z.ga, 0, none⟩) z.b.ac.length z.ca, .slice (some ⟨z.gi, 0, none⟩) z.b.ic.length z.ci, .slice (some ⟨z.gb, 0, none⟩) z.b.bs.length z.cb, .slice (some ⟨z.gl, 0, none⟩) z.b.ls.length z.cl, .slice (some ⟨z.gt, 0, none⟩) z.b.ts.length z.ct, .int .i64 z.b.lot] 40) = w4 at *
  have Q4 := (unhide S4).c.c0
  go_region_held3 (fun w' => w'.cell? ⟨w.heap.size, 0, none⟩ = some (.slice (some ⟨x.ga, 0, none⟩) x.b.ac.length x.ca)) (first | exact Q4 | exact Q5 | exact Q6)
    (first | (go_at_call 49; clear M1; refine (SBals.sKindA w4.drew x fb K1 ((unhide S4).r.below (Below.refl _ _).drew) (unhide LI).1 (unhide hK1)).mono ?_; rintro e u1 ⟨rfl, bb⟩; have bW : Below w4.heap.size w4 u1 := ILotsFit.below_of_drew bb; have T1 := hide ((unhide S4).step bW); have BW1 := hide bW; have Q5 := (unhide T1).c.c0; clear bb bW) | (go_at_call 49; refine (SBals.sKindA u1 x fs K2 (unhide T1).r (unhide LI).1 (unhide hK2)).mono ?_; rintro e u2 ⟨rfl, bb2⟩; have T2 := hide ((unhide T1).step bb2); have BW2 := hide ((unhide BW1).trans (bb2.mono (unhide BW1).size)); have Q6 := (unhide T2).c.c0; clear bb2))
  clear Q4 Q5 Q6 T1 BW1
  have M1 := trivial
  go_wp2_with fail
  have Q4 := (unhide T2).c.c1
  go_region_held3 (fun w' => w'.cell? ⟨w.heap.size, 1, none⟩ = some (.slice (some ⟨x.gi, 0, none⟩) x.b.ic.length x.ci)) (first | exact Q4 | exact Q5 | exact Q6)
    (first | (go_at_call 50; clear M1; refine (SBals.sKindI u2.drew x fp K3 ((unhide T2).r.below (Below.refl _ _).drew) (unhide LI).2.1 (unhide hK3)).mono ?_; rintro e u3 ⟨rfl, bb⟩; have bW : Below u2.heap.size u2 u3 := ILotsFit.below_of_drew bb; have T3 := hide ((unhide T2).step bW); have BW3 := hide ((unhide BW2).trans (bW.mono (unhide BW2).size)); have Q5 := (unhide T3).c.c1; clear bb bW) | (go_at_call 50; refine (SBals.sKindI u3 x fc K4 (unhide T3).r (unhide LI).2.1 (unhide hK4)).mono ?_; rintro e u4 ⟨rfl, bb2⟩; have T4 := hide ((unhide T3).step bb2); have BW4 := hide ((unhide BW3).trans (bb2.mono (unhide BW3).size)); have Q6 := (unhide T4).c.c1; clear bb2))
  clear Q4 Q5 Q6 T2 T3 BW2 BW3
  obtain ⟨c0, c1, c2, c3, c4, c5⟩ := (unhide T4).c
  go_wp2_with fail
  refine (STrd.sFind _ x no (unhide T4).r).mono ?_
  rintro e w5 ⟨r, hf, rfl, bb⟩
  have S5 := hide ((unhide T4).step bb)
  have BW5 := hide ((unhide BW4).trans (bb.mono (unhide BW4).size))
  have V5 := hide ((unhide V4).below (unhide BW5) (unhide V4).lt.2)
  have O5 := hide ((unhide O4).below (unhide BW5) (Nat.le_refl _))
  have F1 := hide (off_box (unhide O5) (unhide S5).v)
  have F2 := hide (off_box (unhide O5) (unhide V5))
  clear bb S4 V4 O4 T4 BW4 BW5 c0 c1 c2 c3 c4 c5
  obtain ⟨c0, c1, c2, c3, c4, c5⟩ := (unhide S5).c
  have r0 := (unhide S5).v.c0
  have r1 := (unhide S5).v.c1
  have r2 := (unhide S5).v.c2
  have r3 := (unhide S5).v.c3
  have r4 := (unhide S5).v.c4
  have r5 := (unhide S5).v.c5
  have f0 := (unhide S5).v.free 0
  have f1 := (unhide S5).v.free 1
  have f2 := (unhide S5).v.free 2
  have f3 := (unhide S5).v.free 3
  have f4 := (unhide S5).v.free 4
  have f5 := (unhide S5).v.free 5
  have a0 := (unhide V5).c0
  have a1 := (unhide V5).c1
  have a2 := (unhide V5).c2
  have a3 := (unhide V5).c3
  have a4 := (unhide V5).c4
  have a5 := (unhide V5).c5
  have af0 := (unhide V5).free 0
  have af1 := (unhide V5).free 1
  have af2 := (unhide V5).free 2
  have af3 := (unhide V5).free 3
  have af4 := (unhide V5).free 4
  have af5 := (unhide V5).free 5
  rcases hf with ⟨k, hk, rfl⟩ | ⟨hn, rfl⟩
  · have IZ := hide (show IsTrade x.b no fb fs fp fq fc fr z.b 2 from .inl ⟨⟨k, hk⟩, unhide HZ, rfl⟩)
    clear hk hK1 hK2 hK3 hK4
    go_wp2
    refine bodyPost_ret (v := .tuple #[.agg #[.slice (some ⟨z.ga, 0, none⟩) z.b.ac.length z.ca, .slice (some ⟨z.gi, 0, none⟩) z.b.ic.length z.ci, .slice (some ⟨z.gb, 0, none⟩) z.b.bs.length z.cb, .slice (some ⟨z.gl, 0, none⟩) z.b.ls.length z.cl, .slice (some ⟨z.gt, 0, none⟩) z.b.ts.length z.ct, .int .i64 z.b.lot], .int .i64 2]) (by simp [results, Tryz.results14, go_sem, r0, r1, r2, r3, r4, r5]) rfl (.inr ⟨unhide TT, z, 2, unhide IZ, rfl, ?_, ?_⟩)
    · exact ow_six (unhide O5) (unhide F1) _ _ _ _ _ _
    · exact six (unhide S5).b (by omega) _ _ _ _ _ _
  have HN := hide hn
  clear hn
  have zero : ((K1 == 0) = true ∨ ((K1 == 0) = false ∧ (K2 == 0) = true) ∨ ((K1 == 0) = false ∧ (K2 == 0) = false ∧ (K3 == 0) = true) ∨ ((K1 == 0) = false ∧ (K2 == 0) = false ∧ (K3 == 0) = false ∧ (K4 == 0) = true)) ∧ Hid (NoneT x.b fb fs fp fc) ∨ ((K1 == 0) = false ∧ (K2 == 0) = false ∧ (K3 == 0) = false ∧ (K4 == 0) = false) ∧ Hid (¬ NoneT x.b fb fs fp fc) := by
    unfold NoneT
    rw [unhide hK1, unhide hK2, unhide hK3, unhide hK4]
    by_cases k1 : K1 = 0
    · exact .inl ⟨.inl (eq_true k1), .inl k1⟩
    by_cases k2 : K2 = 0
    · exact .inl ⟨.inr (.inl ⟨eq_false k1, eq_true k2⟩), .inr (.inl k2)⟩
    by_cases k3 : K3 = 0
    · exact .inl ⟨.inr (.inr (.inl ⟨eq_false k1, eq_false k2, eq_true k3⟩)), .inr (.inr (.inl k3))⟩
    by_cases k4 : K4 = 0
    · exact .inl ⟨.inr (.inr (.inr ⟨eq_false k1, eq_false k2, eq_false k3, eq_true k4⟩)), .inr (.inr (.inr k4))⟩
    · exact .inr ⟨⟨eq_false k1, eq_false k2, eq_false k3, eq_false k4⟩, fun hh => by omega⟩
  obtain ⟨Z, ZZ⟩ | ⟨⟨m1, m2, m3, m4⟩, NZ⟩ := zero
  · have IZ := hide (show IsTrade x.b no fb fs fp fq fc fr z.b 3 from .inr (.inl ⟨unhide HN, unhide ZZ, unhide HZ, rfl⟩))
    clear hK1 hK2 hK3 hK4 ZZ
    obtain m1 | ⟨m1, m2⟩ | ⟨m1, m2, m3⟩ | ⟨m1, m2, m3, m4⟩ := Z
    all_goals
      go_wp2
      refine bodyPost_ret (v := .tuple #[.agg #[.slice (some ⟨z.ga, 0, none⟩) z.b.ac.length z.ca, .slice (some ⟨z.gi, 0, none⟩) z.b.ic.length z.ci, .slice (some ⟨z.gb, 0, none⟩) z.b.bs.length z.cb, .slice (some ⟨z.gl, 0, none⟩) z.b.ls.length z.cl, .slice (some ⟨z.gt, 0, none⟩) z.b.ts.length z.ct, .int .i64 z.b.lot], .int .i64 3]) (by simp [results, Tryz.results14, go_sem, r0, r1, r2, r3, r4, r5]) rfl (.inr ⟨unhide TT, z, 3, unhide IZ, rfl, ?_, ?_⟩)
      · exact ow_six (unhide O5) (unhide F1) _ _ _ _ _ _
      · exact six (unhide S5).b (by omega) _ _ _ _ _ _
  have kinds : ((K1 != 1) = true ∨ ((K1 != 1) = false ∧ (K2 != 1) = true) ∨ ((K1 != 1) = false ∧ (K2 != 1) = false ∧ (fb == fs) = true) ∨ ((K1 != 1) = false ∧ (K2 != 1) = false ∧ (fb == fs) = false ∧ (K3 != 2) = true) ∨ ((K1 != 1) = false ∧ (K2 != 1) = false ∧ (fb == fs) = false ∧ (K3 != 2) = false ∧ (K4 != 1) = true)) ∧ Hid (KindT x.b fb fs fp fc) ∨ ((K1 != 1) = false ∧ (K2 != 1) = false ∧ (fb == fs) = false ∧ (K3 != 2) = false ∧ (K4 != 1) = false) ∧ Hid (¬ KindT x.b fb fs fp fc) := by
    unfold KindT
    rw [unhide hK1, unhide hK2, unhide hK3, unhide hK4]
    by_cases k1 : K1 = 1
    · by_cases k2 : K2 = 1
      · by_cases k5 : fb = fs
        · exact .inl ⟨.inr (.inr (.inl ⟨ne_false k1, ne_false k2, eq_true k5⟩)), .inr (.inr (.inl k5))⟩
        · by_cases k3 : K3 = 2
          · by_cases k4 : K4 = 1
            · exact .inr ⟨⟨ne_false k1, ne_false k2, eq_false k5, ne_false k3, ne_false k4⟩, fun hh => by omega⟩
            · exact .inl ⟨.inr (.inr (.inr (.inr ⟨ne_false k1, ne_false k2, eq_false k5, ne_false k3, ne_true k4⟩))), .inr (.inr (.inr (.inr k4)))⟩
          · exact .inl ⟨.inr (.inr (.inr (.inl ⟨ne_false k1, ne_false k2, eq_false k5, ne_true k3⟩))), .inr (.inr (.inr (.inl k3)))⟩
      · exact .inl ⟨.inr (.inl ⟨ne_false k1, ne_true k2⟩), .inr (.inl k2)⟩
    · exact .inl ⟨.inl (ne_true k1), .inl k1⟩
  obtain ⟨Z, ZZ⟩ | ⟨⟨q1, q2, q3, q4, q5⟩, NK⟩ := kinds
  · have IZ := hide (show IsTrade x.b no fb fs fp fq fc fr z.b 4 from .inr (.inr (.inl ⟨unhide HN, unhide NZ, unhide ZZ, unhide HZ, rfl⟩)))
    clear hK1 hK2 hK3 hK4 ZZ NZ
    obtain q1 | ⟨q1, q2⟩ | ⟨q1, q2, q3⟩ | ⟨q1, q2, q3, q4⟩ | ⟨q1, q2, q3, q4, q5⟩ := Z
    all_goals
      go_wp2
      refine bodyPost_ret (v := .tuple #[.agg #[.slice (some ⟨z.ga, 0, none⟩) z.b.ac.length z.ca, .slice (some ⟨z.gi, 0, none⟩) z.b.ic.length z.ci, .slice (some ⟨z.gb, 0, none⟩) z.b.bs.length z.cb, .slice (some ⟨z.gl, 0, none⟩) z.b.ls.length z.cl, .slice (some ⟨z.gt, 0, none⟩) z.b.ts.length z.ct, .int .i64 z.b.lot], .int .i64 4]) (by simp [results, Tryz.results14, go_sem, r0, r1, r2, r3, r4, r5]) rfl (.inr ⟨unhide TT, z, 4, unhide IZ, rfl, ?_, ?_⟩)
      · exact ow_six (unhide O5) (unhide F1) _ _ _ _ _ _
      · exact six (unhide S5).b (by omega) _ _ _ _ _ _
  clear hK1 hK2 hK3 hK4
  by_cases full : x.b.ts.length = 30
  · have IZ := hide (show IsTrade x.b no fb fs fp fq fc fr z.b 7 from .inr (.inr (.inr (.inl ⟨unhide HN, unhide NZ, unhide NK, full, unhide HZ, rfl⟩))))
    have fi : ((x.b.ts.length : Int) == 30) = true := by rw [full]; rfl
    clear full
    go_wp2
    refine bodyPost_ret (v := .tuple #[.agg #[.slice (some ⟨z.ga, 0, none⟩) z.b.ac.length z.ca, .slice (some ⟨z.gi, 0, none⟩) z.b.ic.length z.ci, .slice (some ⟨z.gb, 0, none⟩) z.b.bs.length z.cb, .slice (some ⟨z.gl, 0, none⟩) z.b.ls.length z.cl, .slice (some ⟨z.gt, 0, none⟩) z.b.ts.length z.ct, .int .i64 z.b.lot], .int .i64 7]) (by simp [results, Tryz.results14, go_sem, r0, r1, r2, r3, r4, r5]) rfl (.inr ⟨unhide TT, z, 7, unhide IZ, rfl, ?_, ?_⟩)
    · exact ow_six (unhide O5) (unhide F1) _ _ _ _ _ _
    · exact six (unhide S5).b (by omega) _ _ _ _ _ _
  have fi : ((x.b.ts.length : Int) == 30) = false := by
    apply SIssue.eq_false
    omega
  have DONE := hide (show ∀ (g c : Nat), IsTrade x.b no fb fs fp fq fc fr (withT z g c (insT (no, fb, fs, fp, fq, fc, fr, 1) x.b.ts)).b 0 from fun g c => .inr (.inr (.inr (.inr ⟨unhide HN, unhide NZ, unhide NK, full, by show ({ z.b with ts := _ } : Bk) = _; rw [unhide HZ], rfl⟩))))
  clear full HN NZ NK
  have S6 := hide (((unhide S5).step (one_more w5 (.cells #[.int .i64 no, .int .i64 fb, .int .i64 fs, .int .i64 fp, .int .i64 fq, .int .i64 fc, .int .i64 fr, .int .i64 1] 31))).step (one_more (w5.alloc (.cells #[.int .i64 no, .int .i64 fb, .int .i64 fs, .int .i64 fp, .int .i64 fq, .int .i64 fc, .int .i64 fr, .int .i64 1] 31)) (.cells #[] 31)))
  have V6 := hide (World.ownsRow.alloc (World.ownsRow.alloc (unhide V5) (.cells #[.int .i64 no, .int .i64 fb, .int .i64 fs, .int .i64 fp, .int .i64 fq, .int .i64 fc, .int .i64 fr, .int .i64 1] 31)) (.cells #[] 31))
  have O6 := hide (ow_alloc (ow_alloc (unhide O5) (.cells #[.int .i64 no, .int .i64 fb, .int .i64 fs, .int .i64 fp, .int .i64 fq, .int .i64 fc, .int .i64 fr, .int .i64 1] 31)) (.cells #[] 31))
  have X6 := hide ((Box8.made (w := w5) (base := w.heap.size) (g := w5.heap.size) (no, fb, fs, fp, fq, fc, fr, 1) (unhide S5).b.size rfl).alloc (.cells #[] 31))
  have L6 := hide (show Own8 31 ((w5.alloc (.cells #[.int .i64 no, .int .i64 fb, .int .i64 fs, .int .i64 fp, .int .i64 fq, .int .i64 fc, .int .i64 fr, .int .i64 1] 31)).alloc (.cells #[] 31)) (w5.heap.size + 1) (w5.heap.size + 1) 0 0 [] from by
    have := Tup8.lit80 31 (w5.alloc (.cells #[.int .i64 no, .int .i64 fb, .int .i64 fs, .int .i64 fp, .int .i64 fq, .int .i64 fc, .int .i64 fr, .int .i64 1] 31)) (w5.heap.size + 1) (by simp)
    simpa using this)
  have z6 : ((w5.alloc (.cells #[.int .i64 no, .int .i64 fb, .int .i64 fs, .int .i64 fp, .int .i64 fq, .int .i64 fc, .int .i64 fr, .int .i64 1] 31)).alloc (.cells #[] 31)).heap.size = w5.heap.size + 1 + 1 := by simp
  have l5 := (unhide S5).v.lt
  have v5 := (unhide V5).lt
  have U5 := hide (ow_up (unhide O5))
  have IN0 := hide (show Ins (no, fb, fs, fp, fq, fc, fr, 1) (x.b.ts.take 0) false [] from .inl ⟨rfl, rfl, fun q hq => by simp at hq⟩)
  clear S5 V5 O5
  clear c0 c1 c2 c3 c5 r0 r1 r2 r3 r4 r5 f0 f1 f2 f3 f4 f5 a0 a1 a2 a3 a4 a5 af0 af1 af2 af3 af4 af5
  go_wp2
  generalize (w5.alloc (.cells #[.int .i64 no, .int .i64 fb, .int .i64 fs, .int .i64 fp, .int .i64 fq, .int .i64 fc, .int .i64 fr, .int .i64 1] 31)).alloc (.cells #[] 31) = w6 at *
  obtain ⟨t0, ht0⟩ : ∃ t0 : T8, Hid ((no, fb, fs, fp, fq, fc, fr, 1) = t0) := ⟨_, rfl⟩
  clear c4
  go_loopw [24, 25, 26] (fun l p j wr => ∃ (qs : List T8) (put : Bool) (g1 c1 k : Nat), l = .slice (some ⟨g1, 0, none⟩) qs.length c1 ∧ p = .bool put ∧ j = .int .i64 k ∧ k ≤ x.b.ts.length ∧ qs.length ≤ k + 1 ∧ Hid (Ins t0 (x.b.ts.take k) put qs) ∧ Hid (Own8 31 wr (w5.heap.size + 1) g1 qs.length c1 qs) ∧ Hid (Below (w5.heap.size + 1) w6 wr)) (fun _ _ j _ => x.b.ts.length - (intOf j).toNat)
  case atStart => exact ⟨[], false, w5.heap.size + 1, 0, 0, rfl, rfl, rfl, by omega, by simp, by rw [← unhide ht0]; exact IN0, L6, hide (Below.refl _ _)⟩
  case round =>
    clear L6 IN0
    obtain ⟨qs, put, g1, cc, k, rfl, rfl, rfl, hk, ql, HI, H1, HB⟩ := hrel
    have bs := (unhide HB).size
    have c4 := (unhide S6).c.c4
    have hcl := (unhide HB).cell (p := ⟨w.heap.size, 4, none⟩) (show w.heap.size < w5.heap.size + 1 by omega)
    rw [← hcl] at c4
    have XB := hide ((unhide X6).below (unhide HB) (by omega))
    obtain ⟨y0, y1, y2, y3, y4, y5, y6, y7⟩ := And.intro (unhide XB).c0 (And.intro (unhide XB).c1 (And.intro (unhide XB).c2 (And.intro (unhide XB).c3 (And.intro (unhide XB).c4 (And.intro (unhide XB).c5 (And.intro (unhide XB).c6 (unhide XB).c7))))))
    clear hcl
    by_cases t : k < x.b.ts.length
    · have gx := (unhide HR).lt
      have l4 := (unhide S6).b.size
      have DD := hide (show ∀ W, Below (w5.heap.size + 1) w6 W → Tup8.Holds8 W x.gt (k * 8) (el8 x.b.ts k) ∧ W.cell? ⟨w.heap.size, 4, none⟩ = some (.slice (some ⟨x.gt, 0, none⟩) x.b.ts.length x.ct) from fun W hW => ⟨((unhide S6).r.rt.below hW (by omega)) k t, (hW.cell (p := ⟨w.heap.size, 4, none⟩) (show w.heap.size < w5.heap.size + 1 by omega)).trans (unhide S6).c.c4⟩)
      have TN := hide (trade_take (ps := x.b.ts) (k := k) t)
      obtain ⟨q, hq⟩ : ∃ q, Hid (el8 x.b.ts k = q) := ⟨_, rfl⟩
      rw [unhide hq] at DD TN
      clear hq
      obtain ⟨q0, q1, q2, q3, q4, q5, q6, q7⟩ := q
      obtain ⟨⟨d0, d1, d2, d3, d4, d5, d6, d7⟩, _⟩ := (unhide DD) wr (unhide HB)
      have g1l := (unhide H1).lt.1
      cases put
      · by_cases ab : q0 > no
        · have qk : qs.length ≤ k := by have := (unhide HI).len; rw [List.length_take] at this; omega
          have IN1 := hide ((unhide HI).here (q := (q0, q1, q2, q3, q4, q5, q6, q7)) (by rw [← unhide ht0]; exact ab))
          rw [← unhide TN] at IN1
          have abd : decide (q0 > no) = true := decide_eq_true ab
          clear HI TN ab
          have VT := hide (show Tup8.Holds8 (wr.alloc (.cells #[.int .i64 no, .int .i64 fb, .int .i64 fs, .int .i64 fp, .int .i64 fq, .int .i64 fc, .int .i64 fr, .int .i64 1] 31)) wr.heap.size 0 (no, fb, fs, fp, fq, fc, fr, 1) from by simp [Tup8.Holds8])
          go_wp2_with (first | (at_builtin; refine TradeApp.wp_app _ rfl _ _ rfl (w5.heap.size + 1) g1 qs.length cc qs wr.heap.size no fb fs fp fq fc fr 1 rfl rfl ((unhide H1).alloc _) (unhide VT) (by omega) (by simp; omega) ?_) | go_in)
          intro g7 c7 w7 o7 gr7 loc7
          have O7 := hide o7
          have HB7 := hide (((unhide HB).alloc (by omega) (.cells #[.int .i64 no, .int .i64 fb, .int .i64 fs, .int .i64 fp, .int .i64 fq, .int .i64 fc, .int .i64 fr, .int .i64 1] 31)).grown gr7 (by simp; omega) (fun j hj => by cases hj; exact g1l))
          have s7 := gr7.size
          clear o7 gr7 loc7 VT d0 d1 d2 d3 d4 d5 d6 d7 c4 y0 y1 y2 y3 y4 y5 y6 y7
          obtain ⟨⟨d0, d1, d2, d3, d4, d5, d6, d7⟩, c4⟩ := (unhide DD) w7 (unhide HB7)
          have g7l := (unhide O7).lt.1
          have z7 := (unhide HB7).size
          have VQ := hide (show Tup8.Holds8 (w7.alloc (.cells #[.int .i64 q0, .int .i64 q1, .int .i64 q2, .int .i64 q3, .int .i64 q4, .int .i64 q5, .int .i64 q6, .int .i64 q7] 31)) w7.heap.size 0 (q0, q1, q2, q3, q4, q5, q6, q7) from by simp [Tup8.Holds8])
          go_wp2_with (first | (at_builtin; refine TradeApp.wp_app _ rfl _ _ rfl (w5.heap.size + 1) g7 (qs.length + 1) c7 (qs ++ [(no, fb, fs, fp, fq, fc, fr, 1)]) w7.heap.size q0 q1 q2 q3 q4 q5 q6 q7 rfl rfl ((unhide O7).alloc _) (unhide VQ) (by omega) (by simp; omega) ?_) | go_in)
          intro g9 c9 w9 o9 gr9 loc9
          have O9 := hide o9
          have HB9 := hide (((unhide HB7).alloc (by omega) (.cells #[.int .i64 q0, .int .i64 q1, .int .i64 q2, .int .i64 q3, .int .i64 q4, .int .i64 q5, .int .i64 q6, .int .i64 q7] 31)).grown gr9 (by simp; omega) (fun j hj => by cases hj; exact g7l))
          clear o9 gr9 loc9
          go_wp2
          go_roundw
          case rel => exact ⟨qs ++ [(no, fb, fs, fp, fq, fc, fr, 1)] ++ [(q0, q1, q2, q3, q4, q5, q6, q7)], true, g9, c9, k + 1, by rw [show List.length (α := T8) (qs ++ [(no, fb, fs, fp, fq, fc, fr, 1)] ++ [(q0, q1, q2, q3, q4, q5, q6, q7)]) = qs.length + 1 + 1 by simp], rfl, by go_num, by omega, by simp; omega, by rw [unhide ht0]; exact IN1, hide (by rw [show List.length (α := T8) (qs ++ [(no, fb, fs, fp, fq, fc, fr, 1)] ++ [(q0, q1, q2, q3, q4, q5, q6, q7)]) = qs.length + 1 + 1 by simp]; rw [List.append_assoc]; exact unhide O9), HB9⟩
          case measure => simp [intOf]; omega
        · have IN1 := hide ((unhide HI).past (q := (q0, q1, q2, q3, q4, q5, q6, q7)) (by rw [← unhide ht0]; exact ab))
          rw [← unhide TN] at IN1
          have abd : decide (q0 > no) = false := decide_eq_false ab
          clear HI TN ab
          have VQ := hide (show Tup8.Holds8 (wr.alloc (.cells #[.int .i64 q0, .int .i64 q1, .int .i64 q2, .int .i64 q3, .int .i64 q4, .int .i64 q5, .int .i64 q6, .int .i64 q7] 31)) wr.heap.size 0 (q0, q1, q2, q3, q4, q5, q6, q7) from by simp [Tup8.Holds8])
          go_wp2_with (first | (at_builtin; refine TradeApp.wp_app _ rfl _ _ rfl (w5.heap.size + 1) g1 (qs.length) cc (qs) wr.heap.size q0 q1 q2 q3 q4 q5 q6 q7 rfl rfl ((unhide H1).alloc _) (unhide VQ) (by omega) (by simp; omega) ?_) | go_in)
          intro g9 c9 w9 o9 gr9 loc9
          have O9 := hide o9
          have HB9 := hide (((unhide HB).alloc (by omega) (.cells #[.int .i64 q0, .int .i64 q1, .int .i64 q2, .int .i64 q3, .int .i64 q4, .int .i64 q5, .int .i64 q6, .int .i64 q7] 31)).grown gr9 (by simp; omega) (fun j hj => by cases hj; exact g1l))
          clear o9 gr9 loc9
          go_wp2
          go_roundw
          case rel => exact ⟨qs ++ [(q0, q1, q2, q3, q4, q5, q6, q7)], false, g9, c9, k + 1, by rw [show List.length (α := T8) (qs ++ [(q0, q1, q2, q3, q4, q5, q6, q7)]) = qs.length + 1 by simp], rfl, by go_num, by omega, by simp; omega, IN1, hide (by rw [show List.length (α := T8) (qs ++ [(q0, q1, q2, q3, q4, q5, q6, q7)]) = qs.length + 1 by simp]; exact unhide O9), HB9⟩
          case measure => simp [intOf]; omega
      · have IN1 := hide ((unhide HI).more (q := (q0, q1, q2, q3, q4, q5, q6, q7)))
        rw [← unhide TN] at IN1
        clear HI TN
        have VQ := hide (show Tup8.Holds8 (wr.alloc (.cells #[.int .i64 q0, .int .i64 q1, .int .i64 q2, .int .i64 q3, .int .i64 q4, .int .i64 q5, .int .i64 q6, .int .i64 q7] 31)) wr.heap.size 0 (q0, q1, q2, q3, q4, q5, q6, q7) from by simp [Tup8.Holds8])
        go_wp2_with (first | (at_builtin; refine TradeApp.wp_app _ rfl _ _ rfl (w5.heap.size + 1) g1 (qs.length) cc (qs) wr.heap.size q0 q1 q2 q3 q4 q5 q6 q7 rfl rfl ((unhide H1).alloc _) (unhide VQ) (by omega) (by simp; omega) ?_) | go_in)
        intro g9 c9 w9 o9 gr9 loc9
        have O9 := hide o9
        have HB9 := hide (((unhide HB).alloc (by omega) (.cells #[.int .i64 q0, .int .i64 q1, .int .i64 q2, .int .i64 q3, .int .i64 q4, .int .i64 q5, .int .i64 q6, .int .i64 q7] 31)).grown gr9 (by simp; omega) (fun j hj => by cases hj; exact g1l))
        clear o9 gr9 loc9
        go_wp2
        go_roundw
        case rel => exact ⟨qs ++ [(q0, q1, q2, q3, q4, q5, q6, q7)], true, g9, c9, k + 1, by rw [show List.length (α := T8) (qs ++ [(q0, q1, q2, q3, q4, q5, q6, q7)]) = qs.length + 1 by simp], rfl, by go_num, by omega, by simp; omega, IN1, hide (by rw [show List.length (α := T8) (qs ++ [(q0, q1, q2, q3, q4, q5, q6, q7)]) = qs.length + 1 by simp]; exact unhide O9), HB9⟩
        case measure => simp [intOf]; omega
    · obtain rfl : k = x.b.ts.length := by omega
      rw [List.take_length] at HI
      have g1l := (unhide H1).lt
      have v6 := (unhide V6).lt
      have sv := (unhide S6).v.lt
      cases put
      · have IN1 := hide ((unhide HI).last)
        clear HI
        have VT := hide (show Tup8.Holds8 (wr.alloc (.cells #[.int .i64 no, .int .i64 fb, .int .i64 fs, .int .i64 fp, .int .i64 fq, .int .i64 fc, .int .i64 fr, .int .i64 1] 31)) wr.heap.size 0 (no, fb, fs, fp, fq, fc, fr, 1) from by simp [Tup8.Holds8])
        go_wp2_with (first | (at_builtin; refine TradeApp.wp_app _ rfl _ _ rfl (w5.heap.size + 1) g1 qs.length cc qs wr.heap.size no fb fs fp fq fc fr 1 rfl rfl ((unhide H1).alloc _) (unhide VT) (by omega) (by simp; omega) ?_) | go_in)
        intro g9 c9 w9 o9 gr9 loc9
        have O9 := hide o9
        have HB9 := hide (((unhide HB).alloc (by omega) (.cells #[.int .i64 no, .int .i64 fb, .int .i64 fs, .int .i64 fp, .int .i64 fq, .int .i64 fc, .int .i64 fr, .int .i64 1] 31)).grown gr9 (by simp; omega) (fun j hj => by cases hj; exact g1l.1))
        clear o9 gr9 loc9 VT
        obtain ⟨R, hR⟩ : ∃ R : List T8, Hid ((qs ++ [(no, fb, fs, fp, fq, fc, fr, 1)] : List T8) = R) := ⟨_, hide rfl⟩
        have RL : qs.length + 1 = R.length := by rw [← unhide hR]; simp
        rw [unhide hR, RL] at O9
        rw [RL]
        have IR := hide (show R = insT (no, fb, fs, fp, fq, fc, fr, 1) x.b.ts from by rw [← unhide hR, unhide ht0]; exact unhide IN1)
        clear IN1 hR RL
        have g9l := (unhide O9).lt
        have SV9 := hide ((unhide S6).v.below (unhide HB9) (by omega))
        have V9 := hide (Box.below (unhide V6) (unhide HB9) (by omega))
        have O9Z := hide (ow_below_up (unhide O6) (unhide HB9) (up_mono (unhide U5) (by omega)))
        have B9 := hide ((unhide S6).b.trans ((unhide HB9).mono (by omega)))
        have OY := hide (ow_withT (unhide O9Z) ((unhide O9).rebase (base' := w.heap.size) (by omega)))
        have F3 := hide (off_box (unhide OY) (unhide V9))
        have F4 := hide (off_box (unhide OY) (unhide SV9))
        have IZ := hide (show IsTrade x.b no fb fs fp fq fc fr (withT z g9 c9 R).b 0 from by rw [unhide IR]; exact (unhide DONE) g9 c9)
        have a0 := (unhide V9).c0
        have a1 := (unhide V9).c1
        have a2 := (unhide V9).c2
        have a3 := (unhide V9).c3
        have a4 := (unhide V9).c4
        have a5 := (unhide V9).c5
        have af0 := (unhide V9).free 0
        have af1 := (unhide V9).free 1
        have af2 := (unhide V9).free 2
        have af3 := (unhide V9).free 3
        have af4 := (unhide V9).free 4
        have af5 := (unhide V9).free 5
        have r0 := (unhide SV9).c0
        have r1 := (unhide SV9).c1
        have r2 := (unhide SV9).c2
        have r3 := (unhide SV9).c3
        have r4 := (unhide SV9).c4
        have r5 := (unhide SV9).c5
        have rf0 := (unhide SV9).free 0
        have rf1 := (unhide SV9).free 1
        have rf2 := (unhide SV9).free 2
        have rf3 := (unhide SV9).free 3
        have rf4 := (unhide SV9).free 4
        have rf5 := (unhide SV9).free 5
        go_wp2
        refine to_wb (fun W => Box W w.heap.size (w.heap.size + 1) (.slice (some ⟨z.ga, 0, none⟩) z.b.ac.length z.ca) (.slice (some ⟨z.gi, 0, none⟩) z.b.ic.length z.ci) (.slice (some ⟨z.gb, 0, none⟩) z.b.bs.length z.cb) (.slice (some ⟨z.gl, 0, none⟩) z.b.ls.length z.cl) (.slice (some ⟨g9, 0, none⟩) R.length c9) (.int .i64 z.b.lot) ∧ Below w.heap.size w W ∧ Ow W w.heap.size (withT z g9 c9 R)) ?_ ?_
        · exact ⟨(box_six ((unhide SV9).kept ((unhide V9).set4 (.slice (some ⟨g9, 0, none⟩) R.length c9)).2 (fun e => by injection e; omega)) _ _ _ _ _ _).1, six ((unhide B9).setCell (p := ⟨w3.heap.size, 4, none⟩) (show w.heap.size ≤ w3.heap.size by omega) _) (by omega) _ _ _ _ _ _, ow_six (ow_set (unhide OY) (unhide F3) 4 _) (unhide F4) _ _ _ _ _ _⟩
        rintro W ⟨X, B, OW⟩
        have p0 := X.c0
        have p1 := X.c1
        have p2 := X.c2
        have p3 := X.c3
        have p4 := X.c4
        have p5 := X.c5
        exact bodyPost_ret (v := .tuple #[.agg #[.slice (some ⟨z.ga, 0, none⟩) z.b.ac.length z.ca, .slice (some ⟨z.gi, 0, none⟩) z.b.ic.length z.ci, .slice (some ⟨z.gb, 0, none⟩) z.b.bs.length z.cb, .slice (some ⟨z.gl, 0, none⟩) z.b.ls.length z.cl, .slice (some ⟨g9, 0, none⟩) R.length c9, .int .i64 z.b.lot], .int .i64 0]) (by simp [results, Tryz.results14, go_sem, p0, p1, p2, p3, p4, p5]) rfl (.inr ⟨unhide TT, withT z g9 c9 R, 0, unhide IZ, rfl, OW, B⟩)
      · have IN1 := hide ((unhide HI).all)
        clear HI
        obtain ⟨R, g9, c9, w9, rfl, rfl, rfl, rfl⟩ : ∃ R g9 c9 w9, R = qs ∧ g9 = g1 ∧ c9 = cc ∧ w9 = wr := ⟨_, _, _, _, rfl, rfl, rfl, rfl⟩
        have O9 := H1
        have HB9 := HB
        have IR := hide (show R = insT (no, fb, fs, fp, fq, fc, fr, 1) x.b.ts from by rw [unhide ht0]; exact unhide IN1)
        clear IN1
        have g9l := (unhide O9).lt
        have SV9 := hide ((unhide S6).v.below (unhide HB9) (by omega))
        have V9 := hide (Box.below (unhide V6) (unhide HB9) (by omega))
        have O9Z := hide (ow_below_up (unhide O6) (unhide HB9) (up_mono (unhide U5) (by omega)))
        have B9 := hide ((unhide S6).b.trans ((unhide HB9).mono (by omega)))
        have OY := hide (ow_withT (unhide O9Z) ((unhide O9).rebase (base' := w.heap.size) (by omega)))
        have F3 := hide (off_box (unhide OY) (unhide V9))
        have F4 := hide (off_box (unhide OY) (unhide SV9))
        have IZ := hide (show IsTrade x.b no fb fs fp fq fc fr (withT z g9 c9 R).b 0 from by rw [unhide IR]; exact (unhide DONE) g9 c9)
        have a0 := (unhide V9).c0
        have a1 := (unhide V9).c1
        have a2 := (unhide V9).c2
        have a3 := (unhide V9).c3
        have a4 := (unhide V9).c4
        have a5 := (unhide V9).c5
        have af0 := (unhide V9).free 0
        have af1 := (unhide V9).free 1
        have af2 := (unhide V9).free 2
        have af3 := (unhide V9).free 3
        have af4 := (unhide V9).free 4
        have af5 := (unhide V9).free 5
        have r0 := (unhide SV9).c0
        have r1 := (unhide SV9).c1
        have r2 := (unhide SV9).c2
        have r3 := (unhide SV9).c3
        have r4 := (unhide SV9).c4
        have r5 := (unhide SV9).c5
        have rf0 := (unhide SV9).free 0
        have rf1 := (unhide SV9).free 1
        have rf2 := (unhide SV9).free 2
        have rf3 := (unhide SV9).free 3
        have rf4 := (unhide SV9).free 4
        have rf5 := (unhide SV9).free 5
        go_wp2
        refine to_wb (fun W => Box W w.heap.size (w.heap.size + 1) (.slice (some ⟨z.ga, 0, none⟩) z.b.ac.length z.ca) (.slice (some ⟨z.gi, 0, none⟩) z.b.ic.length z.ci) (.slice (some ⟨z.gb, 0, none⟩) z.b.bs.length z.cb) (.slice (some ⟨z.gl, 0, none⟩) z.b.ls.length z.cl) (.slice (some ⟨g9, 0, none⟩) R.length c9) (.int .i64 z.b.lot) ∧ Below w.heap.size w W ∧ Ow W w.heap.size (withT z g9 c9 R)) ?_ ?_
        · exact ⟨(box_six ((unhide SV9).kept ((unhide V9).set4 (.slice (some ⟨g9, 0, none⟩) R.length c9)).2 (fun e => by injection e; omega)) _ _ _ _ _ _).1, six ((unhide B9).setCell (p := ⟨w3.heap.size, 4, none⟩) (show w.heap.size ≤ w3.heap.size by omega) _) (by omega) _ _ _ _ _ _, ow_six (ow_set (unhide OY) (unhide F3) 4 _) (unhide F4) _ _ _ _ _ _⟩
        rintro W ⟨X, B, OW⟩
        have p0 := X.c0
        have p1 := X.c1
        have p2 := X.c2
        have p3 := X.c3
        have p4 := X.c4
        have p5 := X.c5
        exact bodyPost_ret (v := .tuple #[.agg #[.slice (some ⟨z.ga, 0, none⟩) z.b.ac.length z.ca, .slice (some ⟨z.gi, 0, none⟩) z.b.ic.length z.ci, .slice (some ⟨z.gb, 0, none⟩) z.b.bs.length z.cb, .slice (some ⟨z.gl, 0, none⟩) z.b.ls.length z.cl, .slice (some ⟨g9, 0, none⟩) R.length c9, .int .i64 z.b.lot], .int .i64 0]) (by simp [results, Tryz.results14, go_sem, p0, p1, p2, p3, p4, p5]) rfl (.inr ⟨unhide TT, withT z g9 c9 R, 0, unhide IZ, rfl, OW, B⟩)
end Go.Proofs.YteooapfmiammlaaGreat.STrade
namespace Go.Proofs.YteooapfmiammlaaGreat.IInsert8
open Go.ChangeShapes Go.WideShapes Go.ChangeAt Go.RowKit Tup8 Stores8
open Stores (setAll setAll_mid row_set)
open TradeApp (info2)
/-- The cells of a list from place c on. -/
theorem tail_cells {e : TypeId} {w : World} {B g n cap : Nat} {ps : List T8} (h : Own8 e w B g n cap ps) (c : Nat) (hc : c ≤ n) : ∀ (j : Nat) (v : Value), (flat8 (ps.drop c))[j]? = some v → w.cell? ((⟨g, c * 8, none⟩ : Addr).add j) = some v := by
  intro j v hj
  have hl := h.len
  have hX : flat8 ps = flat8 (ps.take c) ++ flat8 (ps.drop c) := by rw [← flat8_append, List.take_append_drop]
  have l1 : (flat8 (ps.take c)).length = c * 8 := by rw [flat8_len]; simp; omega
  have e : (flat8 ps)[c * 8 + j]? = some v := by rw [hX, List.getElem?_append_right (by omega), l1, show c * 8 + j - c * 8 = j by omega]; exact hj
  have := h.at.cells (c * 8 + j) v e
  rw [Addr.add_lit] at this
  rw [Addr.add_lit]
  simpa using this
set_option maxRecDepth 100000 in
theorem insert_end (w : World) (B g n cap vb : Nat) (ps : List T8) (p : T8) (h20 : n ≤ 1048576) (hB : B ≤ w.heap.size) (ho : Own8 31 w B g n cap ps) (hv : Own8 31 w B vb 1 1 [p]) (hne : vb ≠ g) :
    Calls Tryz.prog 105 #[.slice (some ⟨g, 0, none⟩) n cap, .int .i64 n, .slice (some ⟨vb, 0, none⟩) 1 1] w fun e w' => ∃ g' c', e = .returned (.slice (some ⟨g', 0, none⟩) (n + 1) c') ∧ Own8 31 w' B g' (n + 1) c' (ins8 ps n p) ∧ w.grownBy w' (some g) := by
  obtain ⟨i0, hi, hz0, hz1, hz2⟩ := info_parts info2
  obtain ⟨cap0, cap1⟩ := own_cap ho
  unfold maxLen at cap1
  by_cases ce : cap = n
  · subst ce
    go_enter Tryz.func105, Tryz.ntmps105
    go_wp2_with (at_builtin; refine wpList_append_own _ rfl (.tmp 23) (.tmp 24) 38 rfl B 31 i0 (.agg #[.int .i64 0, .int .i64 0, .int .i64 0, .int .i64 0, .int .i64 0, .int .i64 0, .int .i64 0, .int .i64 0]) 8 64 Tryz.underlying38 hi hz0 hz1 hz2 rfl (by decide) (.slice (some ⟨g, 0, none⟩) cap cap) cap _ rfl ho ⟨vb, 0, none⟩ 1 1 (flat8 [p]) rfl (by rw [flat8_len]; rfl) hv.at.cells (fun u hu => flat8_one u [p] hu) (by unfold maxLen; omega) (by omega) hB ?_)
    intro v2 w2 own2 (gr2 : World.grownBy _ w2 (some g)) nil2
    obtain ⟨g2, c2, rfl, o2⟩ := own8_of_row (n' := cap + 1) (ps := ins8 ps cap p) own2 rfl (by rw [← flat8_append]; congr 1; unfold ins8; rw [← ho.len]; simp) (by first | exact nil2 | (rw [nil2]; simp))
    have lg := ho.lt.1
    have b2 : w.grownBy w2 (some g) := ⟨gr2.os, gr2.tape, gr2.output, gr2.size, gr2.block⟩
    clear own2 gr2 nil2
    go_wp2
    go_ret
    exact ⟨g2, c2, rfl, o2, b2⟩
  · have ce2 : ¬ n = cap := fun e => ce e.symm
    go_enter Tryz.func105, Tryz.ntmps105
    go_wp2_with (at_builtin; refine wpList_append_own _ rfl (.tmp 23) (.tmp 24) 38 rfl B 31 i0 (.agg #[.int .i64 0, .int .i64 0, .int .i64 0, .int .i64 0, .int .i64 0, .int .i64 0, .int .i64 0, .int .i64 0]) 8 64 Tryz.underlying38 hi hz0 hz1 hz2 rfl (by decide) (.slice (some ⟨g, 0, none⟩) n cap) n _ rfl ho ⟨vb, 0, none⟩ 1 1 (flat8 [p]) rfl (by rw [flat8_len]; rfl) hv.at.cells (fun u hu => flat8_one u [p] hu) (by unfold maxLen; omega) (by omega) hB ?_)
    intro v2 w2 own2 (gr2 : World.grownBy _ w2 (some g)) nil2
    obtain ⟨g2, c2, rfl, o2⟩ := own8_of_row (n' := n + 1) (ps := ins8 ps n p) own2 rfl (by rw [← flat8_append]; congr 1; unfold ins8; rw [← ho.len]; simp) (by first | exact nil2 | (rw [nil2]; simp))
    have lg := ho.lt.1
    have b2 : w.grownBy w2 (some g) := ⟨gr2.os, gr2.tape, gr2.output, gr2.size, gr2.block⟩
    clear own2 gr2 nil2
    go_wp2
    go_ret
    exact ⟨g2, c2, rfl, o2, b2⟩
set_option maxRecDepth 100000 in
theorem insert_room (w : World) (B g n c cap vb : Nat) (ps : List T8) (p : T8) (h20 : n ≤ 1048576) (hB : B ≤ w.heap.size) (hc : c < n) (hr : n + 1 ≤ cap) (ho : Own8 31 w B g n cap ps) (hv : Own8 31 w B vb 1 1 [p]) (hne : vb ≠ g) :
    Calls Tryz.prog 105 #[.slice (some ⟨g, 0, none⟩) n cap, .int .i64 c, .slice (some ⟨vb, 0, none⟩) 1 1] w fun e w' => ∃ g' c', e = .returned (.slice (some ⟨g', 0, none⟩) (n + 1) c') ∧ Own8 31 w' B g' (n + 1) c' (ins8 ps c p) ∧ w.grownBy w' (some g) := by
  obtain ⟨i0, hi, hz0, hz1, hz2⟩ := info_parts info2
  obtain ⟨cap0, cap1⟩ := own_cap ho
  unfold maxLen at cap1
  have nz : ¬ ((c : Int) = (n : Int)) := by omega
  have nr : ¬ ((cap : Int) < (n : Int) + 1) := by omega
  obtain ⟨U, hU, row0⟩ := row_more ho hr
  have hlen := ho.len
  obtain ⟨sg, fg⟩ := own_shape row0
  obtain ⟨sv, fv⟩ := own_shape hv
  have hsz : (Tryz.prog.info? 31).map (·.size) = some 8 := by rw [hi]; simp [hz1]
  have hzs : ∀ w, (Go.sizeOf 31).run Tryz.prog w = .ok 8 w := fun w => by simp [sizeOf, typeInfo, hi, hz1]
  have hov : ∀ lb cb, (callFunc 140 #[.slice (some ⟨vb, 0, none⟩) 1 1, .slice (some ⟨g, (c + 1) * 8, none⟩) lb cb]).run Tryz.prog w = .ok (.value (.bool false)) w := fun lb cb => by
    rw [run_callFunc_extern Tryz.func140 (by kernel_rfl) (by kernel_rfl) (by kernel_rfl) (e := Extern.SlicesOverlaps.overlaps #[38, 38] #[4]) (by kernel_rfl),
      Lib.run_overlaps_apart w 38 4 31 Tryz.underlying38 8 hzs ⟨vb, 0, none⟩ ⟨g, (c + 1) * 8, none⟩ 1 1 lb cb hne _ _ _ _ sv sg (by omega) (fv _) (fv _)]
    rfl
  have hdl : (ps.drop c).length = n - c := by rw [List.length_drop, hlen]
  have tail : ∀ j v, (flat8 (ps.drop c))[j]? = some v → w.cell? ((⟨g, c * 8, none⟩ : Addr).add j) = some v := tail_cells ho c (by omega)
  have hcp1 : ∀ ty dc sc, (Builtin.copy_ #[38, 38] ty #[.slice (some ⟨g, (c + 1) * 8, none⟩) (n - c) dc, .slice (some ⟨g, c * 8, none⟩) (n + 1 - c) sc]).run Tryz.prog w.drew = .ok (goInt (ps.drop c).length) (w.drew.setCells g ((c + 1) * 8) (flat8 (ps.drop c))) := fun ty dc sc =>
    run_copy8 w.drew _ _ ty 31 g ((c + 1) * 8) (n - c) dc ⟨g, c * 8, none⟩ (n + 1 - c) sc (ps.drop c) Tryz.underlying38 hsz (by rw [hdl]; simp only [Nat.min_def]; split <;> omega) tail (fun j hj => row_some row0 _ (by rw [hdl] at hj; omega)) fg
  obtain ⟨W1, hW1⟩ : ∃ W1, W1 = w.drew.setCells g ((c + 1) * 8) (flat8 (ps.drop c)) := ⟨_, rfl⟩
  obtain ⟨row1, gr1⟩ := row_set (flat8 (ps.drop c)) ((c + 1) * 8) w.drew _ (World.ownsRow.drew row0)
  rw [← hW1] at hcp1 row1 gr1
  have hv1 := (Own8.drew hv).kept gr1 (by simpa using hne)
  have hcp2 : ∀ ty dc, (Builtin.copy_ #[38, 38] ty #[.slice (some ⟨g, c * 8, none⟩) (n + 1 - c) dc, .slice (some ⟨vb, 0, none⟩) 1 1]).run Tryz.prog W1 = .ok (goInt [p].length) (W1.setCells g (c * 8) (flat8 [p])) := fun ty dc =>
    run_copy8 W1 _ _ ty 31 g (c * 8) (n + 1 - c) dc ⟨vb, 0, none⟩ 1 1 [p] Tryz.underlying38 hsz (by simp only [Nat.min_def, List.length_singleton]; split <;> omega) hv1.at.cells (fun j hj => row_some row1 _ (by simp at hj; omega)) (own_shape row1).2
  obtain ⟨row2, gr2⟩ := row_set (flat8 [p]) (c * 8) W1 _ row1
  have own2 : Own8 31 (W1.setCells g (c * 8) (flat8 [p])) B g (n + 1) cap (ins8 ps c p) := by
    have e := shift_then_put ps c p U hU (by omega)
    unfold Own8
    rw [← e]
    exact row2
  have lg := ho.lt.1
  have bel : w.grownBy (W1.setCells g (c * 8) (flat8 [p])) (some g) := grown_trans (show w.grownBy W1 (some g) from ⟨gr1.os, gr1.tape, gr1.output, gr1.size, gr1.block⟩) gr2
  generalize W1.setCells g (c * 8) (flat8 [p]) = W2 at *
  have HO := hide own2
  have HB := hide bel
  clear row0 row1 row2 gr1 gr2 own2 bel ho hv hv1 sg fg sv fv hW1 tail hzs
  have mixed : Tryz.prog.follows .mixedOrders = true := by kernel_rfl
  have hw1 : IntKind.i64.wrap ((c : Int) + 1) = (c : Int) + 1 := by rw [IntKind.wrap_i64]; omega
  have k1 : (0 : Int) ≤ (c : Int) + 1 := by omega
  have k2 : ((c : Int) + 1).toNat = c + 1 := by omega
  have k3 : (c : Int) ≤ (n : Int) := by omega
  have k4 : (c : Int) ≤ (n : Int) + 1 := by omega
  have k5 : ¬ cap = c := by omega
  have k6 : ¬ cap = c + 1 := by omega
  have k7 : (c : Int) + 1 ≤ (n : Int) + 1 := by omega
  go_enter Tryz.func105, Tryz.ntmps105
  go_wp2_with (simp only [hov])
  go_region_law_o (refine step_copy_runI rfl _ _ 38 38 rfl _ _ (by simp [Act.eval, Act.put]) (by simp [Act.eval, Act.put]) (hcp1 _ _ _) ?_)
  go_wp2_with (at_builtin; refine wpList_copy_runI _ rfl _ _ 38 38 rfl _ _ rfl rfl (hcp2 _ _) ?_)
  go_ret
  exact ⟨g, cap, rfl, unhide HO, unhide HB⟩
set_option maxRecDepth 100000 in
theorem insert_grow (w : World) (B g n c cap vb : Nat) (ps : List T8) (p : T8) (h20 : n ≤ 1048576) (hB : B ≤ w.heap.size) (hc : c < n) (hr : ¬ n + 1 ≤ cap) (ho : Own8 31 w B g n cap ps) (hv : Own8 31 w B vb 1 1 [p]) (hne : vb ≠ g) :
    Calls Tryz.prog 105 #[.slice (some ⟨g, 0, none⟩) n cap, .int .i64 c, .slice (some ⟨vb, 0, none⟩) 1 1] w fun e w' => ∃ g' c', e = .returned (.slice (some ⟨g', 0, none⟩) (n + 1) c') ∧ Own8 31 w' B g' (n + 1) c' (ins8 ps c p) ∧ w.grownBy w' (some g) := by
  obtain ⟨i0, hi, hz0, hz1, hz2⟩ := info_parts info2
  obtain ⟨cap0, cap1⟩ := own_cap ho
  unfold maxLen at cap1
  have nz : ¬ ((c : Int) = (n : Int)) := by omega
  have nr : ((cap : Int) < (n : Int) + 1) := by omega
  have hlen := ho.len
  have hsz : (Tryz.prog.info? 31).map (·.size) = some 8 := by rw [hi]; simp [hz1]
  have l1 : (flat8 (ps.take c)).length = c * 8 := by rw [flat8_len]; simp; omega
  have hold : (Builtin.firstCells i0.size c (.slice (some ⟨g, 0, none⟩) c cap)).run Tryz.prog w.drew = .ok (flat8 (ps.take c)).toArray w.drew := by
    rw [hz1]
    exact run_firstCells_some w.drew 8 c ⟨g, 0, none⟩ c cap (flat8 (ps.take c)) l1 (fun j v hj => by
      have hX : flat8 ps = flat8 (ps.take c) ++ flat8 (ps.drop c) := by rw [← flat8_append, List.take_append_drop]
      have hjl : j < (flat8 (ps.take c)).length := (List.getElem?_eq_some_iff.1 hj).1
      exact ho.at.cells j v (by rw [hX, List.getElem?_append_left hjl]; exact hj))
  obtain ⟨G, hG⟩ : ∃ G, G = grownCap w (n + 1) cap 31 := ⟨_, rfl⟩
  have hG1 : n + 1 ≤ G := by rw [hG]; exact grownCap_ge w _ _ _
  have hG2 : G ≤ maxLen := by rw [hG]; exact grownCap_le_maxLen w _ _ _ (by unfold maxLen; omega)
  obtain ⟨ROW, hROW⟩ : ∃ ROW : Array Value, ROW = (flat8 (ps.take c)).toArray ++ Builtin.zeroCells (Value.agg #[.int .i64 0, .int .i64 0, .int .i64 0, .int .i64 0, .int .i64 0, .int .i64 0, .int .i64 0, .int .i64 0]).cells (n + 1 - c) ++ Builtin.zeroCells (Value.agg #[.int .i64 0, .int .i64 0, .int .i64 0, .int .i64 0, .int .i64 0, .int .i64 0, .int .i64 0, .int .i64 0]).cells (G - (n + 1)) := ⟨_, rfl⟩
  have hrz : ∀ ty, (Builtin.append_ #[38, 3] ty #[.slice (some ⟨g, 0, none⟩) c cap, .int .i64 ((n : Int) + 1 - (c : Int))]).run Tryz.prog w = .ok (.slice (some ⟨w.heap.size, 0, none⟩) (n + 1) G) (w.drew.alloc (.cells ROW 31)) := fun ty => by
    have h := Lib.run_append_grow_zeros w 38 3 ty 31 i0 _ .i64 .i64 Tryz.underlying38 Tryz.underlying3 hi hz0 (some ⟨g, 0, none⟩) c cap (flat8 (ps.take c)) hold (n + 1 - c) (by omega) (by rw [hz1]; decide) (by omega) (by omega) (by rw [hz2]; omega) (by rw [hz2]; exact growslice_fits (by omega) (by omega))
    rw [show c + (n + 1 - c) = n + 1 by omega, ← hG, ← hROW] at h
    rw [show (n : Int) + 1 - (c : Int) = ((n + 1 - c : Nat) : Int) by omega]
    exact h
  have hRs : ROW.size = G * 8 := by
    rw [hROW]
    simp [Builtin.zeroCells, Value.cells, l1]
    omega
  obtain ⟨Z, hZ, hT⟩ : ∃ Z : List Value, Z.length = (ps.length + 1 - c) * 8 ∧ ROW.toList.take ((n + 1) * 8) = flat8 (ps.take c) ++ Z := by
    refine ⟨(Builtin.zeroCells (Value.agg #[.int .i64 0, .int .i64 0, .int .i64 0, .int .i64 0, .int .i64 0, .int .i64 0, .int .i64 0, .int .i64 0]).cells (n + 1 - c)).toList, by simp [Builtin.zeroCells, Value.cells]; omega, ?_⟩
    rw [hROW, Array.toList_append, Array.toList_append]
    rw [List.take_append_of_le_length (by simp [Builtin.zeroCells, Value.cells, l1]; omega), List.take_of_length_le (by simp [Builtin.zeroCells, Value.cells, l1]; omega)]
  obtain ⟨W1, hW1⟩ : ∃ W1, W1 = w.drew.alloc (.cells ROW 31) := ⟨_, rfl⟩
  have row1 : W1.ownsRow B 31 8 (.slice (some ⟨w.heap.size, 0, none⟩) (n + 1) G) (n + 1) (flat8 (ps.take c) ++ Z) := by
    rw [hW1]
    exact ⟨by rw [List.length_append, l1, hZ]; omega, .inr ⟨w.heap.size, G, ROW, rfl, hB, heap_alloc_new w.drew _, hG1, hG2, hRs, hT⟩⟩
  have gr1 : w.grownBy W1 none := by rw [hW1]; exact ⟨rfl, rfl, rfl, by simp, fun k hk _ => Below.heap_alloc w.drew _ k hk⟩
  rw [← hW1] at hrz
  have ho1 := ho.kept gr1 (by simp)
  have hv1 := hv.kept gr1 (by simp)
  have lg := ho.lt
  have lv := hv.lt
  have hcpA : ∀ ty dc, (Builtin.copy_ #[38, 38] ty #[.slice (some ⟨w.heap.size, c * 8, none⟩) (n + 1 - c) dc, .slice (some ⟨vb, 0, none⟩) 1 1]).run Tryz.prog W1 = .ok (goInt [p].length) (W1.setCells w.heap.size (c * 8) (flat8 [p])) := fun ty dc =>
    run_copy8 W1 _ _ ty 31 w.heap.size (c * 8) (n + 1 - c) dc ⟨vb, 0, none⟩ 1 1 [p] Tryz.underlying38 hsz (by simp only [Nat.min_def, List.length_singleton]; split <;> omega) hv1.at.cells (fun j hj => row_some row1 _ (by simp at hj; omega)) (own_shape row1).2
  obtain ⟨row2, gr2⟩ := row_set (flat8 [p]) (c * 8) W1 _ row1
  have ho2 := ho1.kept gr2 (by simp; omega)
  generalize hW2 : W1.setCells w.heap.size (c * 8) (flat8 [p]) = W2 at *
  have hdl : (ps.drop c).length = n - c := by rw [List.length_drop, hlen]
  have hcpB : ∀ ty dc sc, (Builtin.copy_ #[38, 38] ty #[.slice (some ⟨w.heap.size, (c + 1) * 8, none⟩) (n - c) dc, .slice (some ⟨g, c * 8, none⟩) (n - c) sc]).run Tryz.prog W2.drew = .ok (goInt (ps.drop c).length) (W2.drew.setCells w.heap.size ((c + 1) * 8) (flat8 (ps.drop c))) := fun ty dc sc =>
    run_copy8 W2.drew _ _ ty 31 w.heap.size ((c + 1) * 8) (n - c) dc ⟨g, c * 8, none⟩ (n - c) sc (ps.drop c) Tryz.underlying38 hsz (by rw [hdl]; simp) (tail_cells ho2 c (by omega)) (fun j hj => row_some row2 _ (by rw [hdl] at hj; omega)) (own_shape row2).2
  obtain ⟨row3, gr3⟩ := row_set (flat8 (ps.drop c)) ((c + 1) * 8) W2.drew _ (World.ownsRow.drew row2)
  generalize hW3 : W2.drew.setCells w.heap.size ((c + 1) * 8) (flat8 (ps.drop c)) = W3 at *
  have own3 : Own8 31 W3 B w.heap.size (n + 1) G (ins8 ps c p) := by
    have e := put_then_tail ps c p Z hZ (by omega)
    unfold Own8
    rw [← e]
    exact row3
  have bel0 : Below w.heap.size w W3 := ((((Below.refl w.heap.size w).grown gr1 (Nat.le_refl _) (by simp)).grown gr2 gr1.size (by simp)).drew).grown gr3 (Nat.le_trans gr1.size gr2.size) (by simp)
  have bel : w.grownBy W3 (some g) := ⟨bel0.os, bel0.tape, bel0.output, bel0.size, fun j hj _ => bel0.block j hj⟩
  have G63 : (G : Int) ≤ 9223372036854775807 := by unfold maxLen at hG2; omega
  have HO := hide own3
  have HB := hide bel
  clear bel0 row1 row2 row3 gr1 gr2 gr3 own3 bel ho hv ho1 ho2 hv1 hW1 hW2 hW3 hold hT hROW hG hRs hZ
  have mixed : Tryz.prog.follows .mixedOrders = true := by kernel_rfl
  have hw1 : IntKind.i64.wrap ((c : Int) + 1) = (c : Int) + 1 := by rw [IntKind.wrap_i64]; omega
  have k1 : (0 : Int) ≤ (c : Int) + 1 := by omega
  have k2 : ((c : Int) + 1).toNat = c + 1 := by omega
  have k3 : (c : Int) ≤ (n : Int) := by omega
  have k4 : (c : Int) ≤ (n : Int) + 1 := by omega
  have k5 : ¬ cap = c := by omega
  have k6 : ¬ G = c + 1 := by omega
  have k7 : (c : Int) + 1 ≤ (n : Int) + 1 := by omega
  have k8 : ¬ G = c := by omega
  go_enter Tryz.func105, Tryz.ntmps105
  go_wp2_with (first
    | (at_builtin; refine Lib.wpList_append_run _ rfl _ _ _ _ rfl _ _ rfl rfl _ _ (hrz _) ?_)
    | (at_builtin; refine wpList_copy_runI _ rfl _ _ 38 38 rfl _ _ rfl rfl (hcpA _ _) ?_))
  go_region_law_o (refine step_copy_runI rfl _ _ 38 38 rfl (.slice (some ⟨w.heap.size, (c + 1) * 8, none⟩) (n - c) (G - (c + 1))) (.slice (some ⟨g, c * 8, none⟩) (n - c) (cap - c)) (by simp [Act.eval, Act.put]) (by simp [Act.eval, Act.put]) (hcpB _ _ _) ?_)
  go_wp2
  go_ret
  exact ⟨w.heap.size, G, rfl, unhide HO, unhide HB⟩
/-- Insert at any place of a list of the call's own. -/
theorem iInsert (w : World) (B g n c cap vb : Nat) (ps : List T8) (p : T8) (h20 : n ≤ 1048576) (hB : B ≤ w.heap.size) (hc : c ≤ n) (ho : Own8 31 w B g n cap ps) (hv : Own8 31 w B vb 1 1 [p]) (hne : vb ≠ g) :
    Calls Tryz.prog 105 #[.slice (some ⟨g, 0, none⟩) n cap, .int .i64 c, .slice (some ⟨vb, 0, none⟩) 1 1] w fun e w' => ∃ g' c', e = .returned (.slice (some ⟨g', 0, none⟩) (n + 1) c') ∧ Own8 31 w' B g' (n + 1) c' (ins8 ps c p) ∧ w.grownBy w' (some g) := by
  rcases Nat.lt_or_eq_of_le hc with l | l
  · by_cases r : n + 1 ≤ cap
    · exact insert_room w B g n c cap vb ps p h20 hB l r ho hv hne
    · exact insert_grow w B g n c cap vb ps p h20 hB l r ho hv hne
  · subst l
    exact insert_end w B g c cap vb ps p h20 hB ho hv hne
end Go.Proofs.YteooapfmiammlaaGreat.IInsert8
namespace Go.Proofs.YteooapfmiammlaaGreat.IAddT
open Go.ChangeShapes Go.WideShapes Go.ChangeAt Go.RowKit BMem Bks ILists BHelp Ans ICopied ICmdB IHave ICmdW Trd TBox Stores8
open SIssue (ne_true ne_false eq_true eq_false row_ne)
open IBalsFit (one_more all_one)
open ITrade (at_new)
open Lots (Says says_of NoOk)
open Tup8 (T8 el8 Own8)
open Quieter (Near near_is quiet_near)
open IPlace8 (IsPlace8 StandsAt8 place_at place_none place_ins iPlace)
/-- The books that are worked on, and the trade in its variable. -/
structure AW (u W : World) (z : Bx) (base g : Nat) (no fb fs fp fq fc fr : Int) : Prop where
  d : DW u W z base g
  t : Box8 W u.heap.size u.heap.size (no, fb, fs, fp, fq, fc, fr, 1)
theorem AW.step {u W W' : World} {z : Bx} {base g : Nat} {no fb fs fp fq fc fr : Int} (h : AW u W z base g no fb fs fp fq fc fr) (k : Below W.heap.size W W') : AW u W' z base g no fb fs fp fq fc fr := ⟨h.d.step k, h.t.below k h.t.lt.2⟩
theorem AW.drew {u W : World} {z : Bx} {base g : Nat} {no fb fs fp fq fc fr : Int} (h : AW u W z base g no fb fs fp fq fc fr) : AW u W.drew z base g no fb fs fp fq fc fr := h.step (Below.refl _ _).drew
theorem AW.hold {u W : World} {z : Bx} {base g : Nat} {no fb fs fp fq fc fr : Int} (h : AW u W z base g no fb fs fp fq fc fr) : W.cell? ⟨g, 0, none⟩ = some (.slice (some ⟨z.ga, 0, none⟩) z.b.ac.length z.ca) ∧ W.cell? ⟨g, 1, none⟩ = some (.slice (some ⟨z.gi, 0, none⟩) z.b.ic.length z.ci) ∧ W.cell? ⟨g, 2, none⟩ = some (.slice (some ⟨z.gb, 0, none⟩) z.b.bs.length z.cb) ∧ W.cell? ⟨g, 3, none⟩ = some (.slice (some ⟨z.gl, 0, none⟩) z.b.ls.length z.cl) ∧ W.cell? ⟨g, 4, none⟩ = some (.slice (some ⟨z.gt, 0, none⟩) z.b.ts.length z.ct) ∧ W.cell? ⟨g, 5, none⟩ = some (.int .i64 z.b.lot) ∧ W.cell? ⟨u.heap.size, 0, none⟩ = some (.int .i64 no) ∧ W.cell? ⟨u.heap.size, 1, none⟩ = some (.int .i64 fb) ∧ W.cell? ⟨u.heap.size, 2, none⟩ = some (.int .i64 fs) ∧ W.cell? ⟨u.heap.size, 3, none⟩ = some (.int .i64 fp) ∧ W.cell? ⟨u.heap.size, 4, none⟩ = some (.int .i64 fq) ∧ W.cell? ⟨u.heap.size, 5, none⟩ = some (.int .i64 fc) ∧ W.cell? ⟨u.heap.size, 6, none⟩ = some (.int .i64 fr) ∧ W.cell? ⟨u.heap.size, 7, none⟩ = some (.int .i64 1) :=
  ⟨h.d.v.c0, h.d.v.c1, h.d.v.c2, h.d.v.c3, h.d.v.c4, h.d.v.c5, h.t.c0, h.t.c1, h.t.c2, h.t.c3, h.t.c4, h.t.c5, h.t.c6, h.t.c7⟩
theorem AW.start {u : World} {z : Bx} {base g : Nat} {no fb fs fp fq fc fr : Int} (h : DW u u z base g) : AW u (u.alloc (.cells #[.int .i64 no, .int .i64 fb, .int .i64 fs, .int .i64 fp, .int .i64 fq, .int .i64 fc, .int .i64 fr, .int .i64 1] 31)) z base g no fb fs fp fq fc fr :=
  ⟨h.step (one_more _ _), Box8.made (no, fb, fs, fp, fq, fc, fr, 1) (Nat.le_refl _) rfl⟩
theorem b8hold {W : World} {B g : Nat} {no fb fs fp fq fc fr : Int} (h : Box8 W B g (no, fb, fs, fp, fq, fc, fr, 1)) : W.cell? ⟨g, 0, none⟩ = some (.int .i64 no) ∧ W.cell? ⟨g, 1, none⟩ = some (.int .i64 fb) ∧ W.cell? ⟨g, 2, none⟩ = some (.int .i64 fs) ∧ W.cell? ⟨g, 3, none⟩ = some (.int .i64 fp) ∧ W.cell? ⟨g, 4, none⟩ = some (.int .i64 fq) ∧ W.cell? ⟨g, 5, none⟩ = some (.int .i64 fc) ∧ W.cell? ⟨g, 6, none⟩ = some (.int .i64 fr) ∧ W.cell? ⟨g, 7, none⟩ = some (.int .i64 1) := ⟨h.c0, h.c1, h.c2, h.c3, h.c4, h.c5, h.c6, h.c7⟩
/-- Books with another list of trades. -/
abbrev withT (x : Bx) (g c : Nat) (qs : List T8) : Bx := { x with gt := g, ct := c, b := { x.b with ts := qs } }
/-- The operations of two regions that draw their order. -/
abbrev oH0 : Oper := { dst := some 17, op := Go.Op.move (Go.Operand.tmp 0), type := 82, pos := "l07_trade.go:77", after := #[], guard := none }
abbrev oH1 : Oper := { dst := some 18, op := Go.Op.nilCheck (Go.Operand.tmp 17), type := 0, pos := "l07_trade.go:77", after := #[{ on := 0, ground := Go.Ground.data }], guard := none }
abbrev oH2 : Oper := { dst := some 19, op := Go.Op.load 40 (Go.Operand.tmp 18), type := 40, pos := "l07_trade.go:77", after := #[{ on := 1, ground := Go.Ground.data }], guard := none }
abbrev oH3 : Oper := { dst := some 20, op := Go.Op.fieldAddr 31 (Go.Operand.tmp 3) 1, type := 0, pos := "l07_trade.go:77", after := #[], guard := none }
abbrev oH4 : Oper := { dst := some 21, op := Go.Op.load 3 (Go.Operand.tmp 20), type := 3, pos := "l07_trade.go:77", after := #[{ on := 3, ground := Go.Ground.data }], guard := none }
abbrev oH5 : Oper := { dst := some 22, op := Go.Op.fieldAddr 31 (Go.Operand.tmp 3) 2, type := 0, pos := "l07_trade.go:77", after := #[], guard := none }
abbrev oH6 : Oper := { dst := some 23, op := Go.Op.load 3 (Go.Operand.tmp 22), type := 3, pos := "l07_trade.go:77", after := #[{ on := 5, ground := Go.Ground.data }], guard := none }
abbrev oH7 : Oper := { dst := some 24, op := Go.Op.buildSlice 53 2 #[(0, Go.Operand.tmp 21), (1, Go.Operand.tmp 23)], type := 53, pos := "l07_trade.go:77", after := #[{ on := 4, ground := Go.Ground.data }, { on := 6, ground := Go.Ground.data }], guard := none }
abbrev oH8 : Oper := { dst := some 25, op := Go.Op.call { callee := Go.Callee.value (Go.Operand.func 102), args := #[Go.Operand.tmp 19, Go.Operand.tmp 24], argTypes := #[82, 53] }, type := 4, pos := "l07_trade.go:77", after := #[{ on := 2, ground := Go.Ground.data }, { on := 7, ground := Go.Ground.data }], guard := none }
abbrev oH9 : Oper := { dst := some 26, op := Go.Op.unOp Go.UnOp.not 4 (Go.Operand.tmp 25), type := 4, pos := "l07_trade.go:77", after := #[{ on := 8, ground := Go.Ground.data }], guard := none }
abbrev oH10 : Oper := { dst := some 27, op := Go.Op.move (Go.Operand.tmp 26), type := 4, pos := "l07_trade.go:77", after := #[{ on := 9, ground := Go.Ground.data }, { on := 8, ground := Go.Ground.chain }], guard := none }
abbrev oH11 : Oper := { dst := some 28, op := Go.Op.move (Go.Operand.tmp 0), type := 82, pos := "l07_trade.go:77", after := #[{ on := 10, ground := Go.Ground.guard }], guard := some (10, false) }
abbrev oH12 : Oper := { dst := some 29, op := Go.Op.nilCheck (Go.Operand.tmp 28), type := 0, pos := "l07_trade.go:77", after := #[{ on := 11, ground := Go.Ground.data }, { on := 10, ground := Go.Ground.guard }], guard := some (10, false) }
abbrev oH13 : Oper := { dst := some 30, op := Go.Op.load 40 (Go.Operand.tmp 29), type := 40, pos := "l07_trade.go:77", after := #[{ on := 12, ground := Go.Ground.data }, { on := 10, ground := Go.Ground.guard }], guard := some (10, false) }
abbrev oH14 : Oper := { dst := some 31, op := Go.Op.fieldAddr 31 (Go.Operand.tmp 3) 3, type := 0, pos := "l07_trade.go:77", after := #[{ on := 10, ground := Go.Ground.guard }], guard := some (10, false) }
abbrev oH15 : Oper := { dst := some 32, op := Go.Op.load 3 (Go.Operand.tmp 31), type := 3, pos := "l07_trade.go:77", after := #[{ on := 14, ground := Go.Ground.data }, { on := 10, ground := Go.Ground.guard }], guard := some (10, false) }
abbrev oH16 : Oper := { dst := some 33, op := Go.Op.fieldAddr 31 (Go.Operand.tmp 3) 5, type := 0, pos := "l07_trade.go:77", after := #[{ on := 10, ground := Go.Ground.guard }], guard := some (10, false) }
abbrev oH17 : Oper := { dst := some 34, op := Go.Op.load 3 (Go.Operand.tmp 33), type := 3, pos := "l07_trade.go:77", after := #[{ on := 16, ground := Go.Ground.data }, { on := 10, ground := Go.Ground.guard }], guard := some (10, false) }
abbrev oH18 : Oper := { dst := some 35, op := Go.Op.buildSlice 53 2 #[(0, Go.Operand.tmp 32), (1, Go.Operand.tmp 34)], type := 53, pos := "l07_trade.go:77", after := #[{ on := 15, ground := Go.Ground.data }, { on := 17, ground := Go.Ground.data }, { on := 10, ground := Go.Ground.guard }], guard := some (10, false) }
abbrev oH19 : Oper := { dst := some 36, op := Go.Op.call { callee := Go.Callee.value (Go.Operand.func 103), args := #[Go.Operand.tmp 30, Go.Operand.tmp 35], argTypes := #[82, 53] }, type := 4, pos := "l07_trade.go:77", after := #[{ on := 13, ground := Go.Ground.data }, { on := 18, ground := Go.Ground.data }, { on := 10, ground := Go.Ground.chain }, { on := 10, ground := Go.Ground.guard }], guard := some (10, false) }
abbrev oH20 : Oper := { dst := some 37, op := Go.Op.unOp Go.UnOp.not 4 (Go.Operand.tmp 36), type := 4, pos := "l07_trade.go:77", after := #[{ on := 19, ground := Go.Ground.data }, { on := 10, ground := Go.Ground.guard }], guard := some (10, false) }
abbrev oH21 : Oper := { dst := some 38, op := Go.Op.pick (Go.Operand.tmp 27) (Go.Operand.const (Go.Value.bool true)) (Go.Operand.tmp 37), type := 4, pos := "l07_trade.go:77", after := #[{ on := 10, ground := Go.Ground.data }, { on := 20, ground := Go.Ground.data }], guard := none }
abbrev oI0 : Oper := { dst := some 58, op := Go.Op.move (Go.Operand.tmp 0), type := 82, pos := "l07_trade.go:86", after := #[], guard := none }
abbrev oI1 : Oper := { dst := some 59, op := Go.Op.move (Go.Operand.tmp 0), type := 82, pos := "l07_trade.go:86", after := #[], guard := none }
abbrev oI2 : Oper := { dst := some 60, op := Go.Op.nilCheck (Go.Operand.tmp 59), type := 0, pos := "l07_trade.go:86", after := #[{ on := 1, ground := Go.Ground.data }], guard := none }
abbrev oI3 : Oper := { dst := some 61, op := Go.Op.fieldAddr 40 (Go.Operand.tmp 60) 4, type := 0, pos := "l07_trade.go:86", after := #[{ on := 2, ground := Go.Ground.data }], guard := none }
abbrev oI4 : Oper := { dst := some 62, op := Go.Op.load 38 (Go.Operand.tmp 61), type := 38, pos := "l07_trade.go:86", after := #[{ on := 3, ground := Go.Ground.data }], guard := none }
abbrev oI5 : Oper := { dst := some 63, op := Go.Op.move (Go.Operand.tmp 5), type := 3, pos := "l07_trade.go:86", after := #[], guard := none }
abbrev oI6 : Oper := { dst := some 64, op := Go.Op.load 31 (Go.Operand.tmp 3), type := 31, pos := "l07_trade.go:86", after := #[], guard := none }
abbrev oI7 : Oper := { dst := some 65, op := Go.Op.buildSlice 38 1 #[(0, Go.Operand.tmp 64)], type := 38, pos := "l07_trade.go:86", after := #[{ on := 6, ground := Go.Ground.data }], guard := none }
abbrev oI8 : Oper := { dst := some 66, op := Go.Op.call { callee := Go.Callee.value (Go.Operand.func 105), args := #[Go.Operand.tmp 62, Go.Operand.tmp 63, Go.Operand.tmp 65], argTypes := #[38, 3, 38] }, type := 38, pos := "l07_trade.go:86", after := #[{ on := 4, ground := Go.Ground.data }, { on := 5, ground := Go.Ground.data }, { on := 7, ground := Go.Ground.data }], guard := none }
abbrev oI9 : Oper := { dst := some 67, op := Go.Op.nilCheck (Go.Operand.tmp 58), type := 0, pos := "l07_trade.go:86", after := #[{ on := 0, ground := Go.Ground.data }, { on := 0, ground := Go.Ground.phase }, { on := 1, ground := Go.Ground.phase }, { on := 2, ground := Go.Ground.phase }, { on := 3, ground := Go.Ground.phase }, { on := 4, ground := Go.Ground.phase }, { on := 5, ground := Go.Ground.phase }, { on := 6, ground := Go.Ground.phase }, { on := 7, ground := Go.Ground.phase }, { on := 8, ground := Go.Ground.phase }], guard := none }
abbrev oI10 : Oper := { dst := some 68, op := Go.Op.fieldAddr 40 (Go.Operand.tmp 67) 4, type := 0, pos := "l07_trade.go:86", after := #[{ on := 9, ground := Go.Ground.data }, { on := 0, ground := Go.Ground.phase }, { on := 1, ground := Go.Ground.phase }, { on := 2, ground := Go.Ground.phase }, { on := 3, ground := Go.Ground.phase }, { on := 4, ground := Go.Ground.phase }, { on := 5, ground := Go.Ground.phase }, { on := 6, ground := Go.Ground.phase }, { on := 7, ground := Go.Ground.phase }, { on := 8, ground := Go.Ground.phase }], guard := none }
abbrev oI11 : Oper := { dst := none, op := Go.Op.store 38 (Go.Operand.tmp 68) (Go.Operand.tmp 66), type := 0, pos := "l07_trade.go:86", after := #[{ on := 10, ground := Go.Ground.data }, { on := 8, ground := Go.Ground.data }, { on := 8, ground := Go.Ground.chain }, { on := 0, ground := Go.Ground.phase }, { on := 1, ground := Go.Ground.phase }, { on := 2, ground := Go.Ground.phase }, { on := 3, ground := Go.Ground.phase }, { on := 4, ground := Go.Ground.phase }, { on := 5, ground := Go.Ground.phase }, { on := 6, ground := Go.Ground.phase }, { on := 7, ground := Go.Ground.phase }, { on := 8, ground := Go.Ground.phase }], guard := none }
set_option maxRecDepth 100000 in
set_option maxHeartbeats 16000000 in
theorem iAddTrade (u : World) (z : Bx) (base g : Nat) (no fb fs fp fq fc fr : Int) (ok : Ok z.b) (V : Var u base g z) (O : Ow u (base + 4) z) (hg : g < base + 4) :
    Calls Tryz.prog 55 #[.pointer (some ⟨g, 0, none⟩), .agg #[.int .i64 no, .int .i64 fb, .int .i64 fs, .int .i64 fp, .int .i64 fq, .int .i64 fc, .int .i64 fr, .int .i64 1]] u fun e u' => ∃ (b' : Bk) (c : Int), IsTrade z.b no fb fs fp fq fc fr b' c ∧ e = .returned (.int .i64 c) ∧ ((c = 0 ∧ ∃ y : Bx, y.b = b' ∧ Var u' base g y ∧ Ow u' (base + 4) y) ∨ (c ≠ 0 ∧ AnyBox u' base g)) ∧ Frm u u' base g := by
  obtain ⟨b0, h0⟩ := says_of (∀ y ∈ [fb, fs], kindOf z.b.ac y ≠ 0)
  obtain ⟨b1, h1⟩ := says_of (∀ y ∈ [fp, fc], kindOf z.b.ic y ≠ 0)
  obtain ⟨b2, h2⟩ := says_of (TradeFit z.b (no, fb, fs, fp, fq, fc, fr, 1))
  have H0 := hide h0
  have H1 := hide h1
  have H2 := hide h2
  have LI := hide ok.1
  have AS := hide (asc ok.1.2.2.2.2.1)
  have tl : z.b.ts.length ≤ 30 := ok.1.2.2.2.2.1.1
  have A1 := hide (AW.start (no := no) (fb := fb) (fs := fs) (fp := fp) (fq := fq) (fc := fc) (fr := fr) (DW.start V O (ok_small ok)))
  have bu : base + 4 ≤ u.heap.size := by have := O.oa.lt; omega
  have gl := (Box.lt V).2
  have tu := O.ot.lt.2
  clear h0 h1 h2 ok V O
  go_enter Tryz.func55, Tryz.ntmps55
  go_wp2_with fail
  generalize u.alloc (.cells #[.int .i64 no, .int .i64 fb, .int .i64 fs, .int .i64 fp, .int .i64 fq, .int .i64 fc, .int .i64 fr, .int .i64 1] 31) = w1 at *
  have A1d := hide ((unhide A1).drew)
  have K4 := (unhide A1).hold
  go_region_held3 (fun w' => w'.cell? ⟨g, 0, none⟩ = some (.slice (some ⟨z.ga, 0, none⟩) z.b.ac.length z.ca) ∧ w'.cell? ⟨g, 1, none⟩ = some (.slice (some ⟨z.gi, 0, none⟩) z.b.ic.length z.ci) ∧ w'.cell? ⟨g, 2, none⟩ = some (.slice (some ⟨z.gb, 0, none⟩) z.b.bs.length z.cb) ∧ w'.cell? ⟨g, 3, none⟩ = some (.slice (some ⟨z.gl, 0, none⟩) z.b.ls.length z.cl) ∧ w'.cell? ⟨g, 4, none⟩ = some (.slice (some ⟨z.gt, 0, none⟩) z.b.ts.length z.ct) ∧ w'.cell? ⟨g, 5, none⟩ = some (.int .i64 z.b.lot) ∧ w'.cell? ⟨u.heap.size, 0, none⟩ = some (.int .i64 no) ∧ w'.cell? ⟨u.heap.size, 1, none⟩ = some (.int .i64 fb) ∧ w'.cell? ⟨u.heap.size, 2, none⟩ = some (.int .i64 fs) ∧ w'.cell? ⟨u.heap.size, 3, none⟩ = some (.int .i64 fp) ∧ w'.cell? ⟨u.heap.size, 4, none⟩ = some (.int .i64 fq) ∧ w'.cell? ⟨u.heap.size, 5, none⟩ = some (.int .i64 fc) ∧ w'.cell? ⟨u.heap.size, 6, none⟩ = some (.int .i64 fr) ∧ w'.cell? ⟨u.heap.size, 7, none⟩ = some (.int .i64 1)) (first | exact K4 | exact K5)
    (first | (go_at_call 40; refine (iPlace w1.drew z no (unhide A1d).d.r AS).mono ?_; rintro e w2 ⟨k, f, hc, hf, rfl, bb⟩; have A2 := hide ((unhide A1d).step bb); have K5 := (unhide A2).hold; have HC := hide hc; have HF := hide hf; clear bb hc hf))
  clear K4 K5 A1 A1d
  have B2 := hide (unhide A2).d.b
  cases f
  rotate_left
  · have IS := hide (show IsTrade z.b no fb fs fp fq fc fr z.b 2 from .inl ⟨⟨k, place_at (unhide HC) (unhide HF)⟩, rfl, rfl⟩)
    go_wp2
    go_ret
    exact ⟨z.b, 2, unhide IS, rfl, .inr ⟨by omega, Var.any (unhide A2).d.v⟩, Frm.below (unhide B2) bu⟩
  have NA := hide (place_none (unhide HC) (unhide HF) (unhide AS))
  clear HF
  go_wp2_with fail
  have A3 := hide ((unhide A2).drew.step (one_more w2.drew (.cells #[.int .i64 fb, .int .i64 fs] 3)))
  have K4 := (unhide A2).hold
  have K5 := (unhide A3).hold
  cases b0
  · have IS := hide (show IsTrade z.b no fb fs fp fq fc fr z.b 3 from .inr (.inl ⟨unhide NA, by
      have := (unhide H0).no
      simp only [List.mem_cons, List.not_mem_nil, or_false, forall_eq_or_imp, forall_eq] at this
      unfold NoneT
      omega, rfl, rfl⟩))
    refine wp_region_held_drew (S := (fun w' => w'.cell? ⟨g, 0, none⟩ = some (.slice (some ⟨z.ga, 0, none⟩) z.b.ac.length z.ca) ∧ w'.cell? ⟨g, 1, none⟩ = some (.slice (some ⟨z.gi, 0, none⟩) z.b.ic.length z.ci) ∧ w'.cell? ⟨g, 2, none⟩ = some (.slice (some ⟨z.gb, 0, none⟩) z.b.bs.length z.cb) ∧ w'.cell? ⟨g, 3, none⟩ = some (.slice (some ⟨z.gl, 0, none⟩) z.b.ls.length z.cl) ∧ w'.cell? ⟨g, 4, none⟩ = some (.slice (some ⟨z.gt, 0, none⟩) z.b.ts.length z.ct) ∧ w'.cell? ⟨g, 5, none⟩ = some (.int .i64 z.b.lot) ∧ w'.cell? ⟨u.heap.size, 0, none⟩ = some (.int .i64 no) ∧ w'.cell? ⟨u.heap.size, 1, none⟩ = some (.int .i64 fb) ∧ w'.cell? ⟨u.heap.size, 2, none⟩ = some (.int .i64 fs) ∧ w'.cell? ⟨u.heap.size, 3, none⟩ = some (.int .i64 fp) ∧ w'.cell? ⟨u.heap.size, 4, none⟩ = some (.int .i64 fq) ∧ w'.cell? ⟨u.heap.size, 5, none⟩ = some (.int .i64 fc) ∧ w'.cell? ⟨u.heap.size, 6, none⟩ = some (.int .i64 fr) ∧ w'.cell? ⟨u.heap.size, 7, none⟩ = some (.int .i64 1))) (by kernel_rfl) K4 (fun hHeld => ?_)
    refine wpAnyH_take (i := 0) (oi := oH0) (v := .pointer (some ⟨g, 0, none⟩)) rfl (by kernel_rfl) (by kernel_rfl) (by kernel_rfl) (fun _ _ _ h => h) (Or.inl ⟨by rfl, fun w hSw => ?_⟩) hHeld ?_
    · (try dsimp only at hSw)
      unfold oH0
      go_simp
    try simp only [oH0, Act.put, List.setIfInBounds_toArray, List.set_cons_zero, List.set_cons_succ]
    refine wpAnyH_take (i := 1) (oi := oH1) (v := .pointer (some ⟨g, 0, none⟩)) rfl (by kernel_rfl) (by kernel_rfl) (by kernel_rfl) (fun _ _ _ h => h) (Or.inl ⟨by rfl, fun w hSw => ?_⟩) hHeld ?_
    · (try dsimp only at hSw)
      unfold oH1
      go_simp
    try simp only [oH1, Act.put, List.setIfInBounds_toArray, List.set_cons_zero, List.set_cons_succ]
    refine wpAnyH_take (i := 2) (oi := oH2) (v := .agg #[.slice (some ⟨z.ga, 0, none⟩) z.b.ac.length z.ca, .slice (some ⟨z.gi, 0, none⟩) z.b.ic.length z.ci, .slice (some ⟨z.gb, 0, none⟩) z.b.bs.length z.cb, .slice (some ⟨z.gl, 0, none⟩) z.b.ls.length z.cl, .slice (some ⟨z.gt, 0, none⟩) z.b.ts.length z.ct, .int .i64 z.b.lot]) rfl (by kernel_rfl) (by kernel_rfl) (by kernel_rfl) (fun _ _ _ h => h) (Or.inl ⟨by rfl, fun w hSw => ?_⟩) hHeld ?_
    · (try dsimp only at hSw)
      unfold oH2
      go_simp
    try simp only [oH2, Act.put, List.setIfInBounds_toArray, List.set_cons_zero, List.set_cons_succ]
    refine wpAnyH_take (i := 3) (oi := oH3) (v := .pointer (some ⟨u.heap.size, 1, none⟩)) rfl (by kernel_rfl) (by kernel_rfl) (by kernel_rfl) (fun _ _ _ h => h) (Or.inl ⟨by rfl, fun w hSw => ?_⟩) hHeld ?_
    · (try dsimp only at hSw)
      unfold oH3
      go_simp
    try simp only [oH3, Act.put, List.setIfInBounds_toArray, List.set_cons_zero, List.set_cons_succ]
    refine wpAnyH_take (i := 4) (oi := oH4) (v := .int .i64 fb) rfl (by kernel_rfl) (by kernel_rfl) (by kernel_rfl) (fun _ _ _ h => h) (Or.inl ⟨by rfl, fun w hSw => ?_⟩) hHeld ?_
    · (try dsimp only at hSw)
      unfold oH4
      go_simp
    try simp only [oH4, Act.put, List.setIfInBounds_toArray, List.set_cons_zero, List.set_cons_succ]
    refine wpAnyH_take (i := 5) (oi := oH5) (v := .pointer (some ⟨u.heap.size, 2, none⟩)) rfl (by kernel_rfl) (by kernel_rfl) (by kernel_rfl) (fun _ _ _ h => h) (Or.inl ⟨by rfl, fun w hSw => ?_⟩) hHeld ?_
    · (try dsimp only at hSw)
      unfold oH5
      go_simp
    try simp only [oH5, Act.put, List.setIfInBounds_toArray, List.set_cons_zero, List.set_cons_succ]
    refine wpAnyH_take (i := 6) (oi := oH6) (v := .int .i64 fs) rfl (by kernel_rfl) (by kernel_rfl) (by kernel_rfl) (fun _ _ _ h => h) (Or.inl ⟨by rfl, fun w hSw => ?_⟩) hHeld ?_
    · (try dsimp only at hSw)
      unfold oH6
      go_simp
    try simp only [oH6, Act.put, List.setIfInBounds_toArray, List.set_cons_zero, List.set_cons_succ]
    refine wpAnyH_ready (rs := [7]) (by kernel_rfl) (by simp) ?_
    refine AllReadyH.cons (o := oH7) rfl (fun K hK => ?_) AllReadyH.nil
    unfold oH7
    go_simp
    refine hK.out _ _ K5 (fun hHeld => ?_)
    clear hK K
    try simp only [oH7, Act.put, List.setIfInBounds_toArray, List.set_cons_zero, List.set_cons_succ]
    refine wpAnyH_ready (rs := [8]) (by kernel_rfl) (by simp) ?_
    refine AllReadyH.cons (o := oH8) rfl (fun K hK => ?_) AllReadyH.nil
    unfold oH8
    go_simp
    refine (iHaveAccounts _ z w2.heap.size 2 2 [fb, fs] false (unhide A3).d.r (unhide LI).1 rfl (by omega) (by simp) (at_new _ [fb, fs] _ rfl rfl) (unhide H0)).mono ?_
    rintro e w3 ⟨rfl, bb⟩
    have A4 := hide ((unhide A3).step bb)
    have K6 := (unhide A4).hold
    clear bb
    go_wp2_with fail
    refine hK.out _ _ K6 (fun hHeld => ?_)
    clear hK K
    try simp only [oH8, Act.put, List.setIfInBounds_toArray, List.set_cons_zero, List.set_cons_succ]
    refine wpAnyH_take (i := 9) (oi := oH9) (v := .bool true) rfl (by kernel_rfl) (by kernel_rfl) (by kernel_rfl) (fun _ _ _ h => h) (Or.inl ⟨by rfl, fun w hSw => ?_⟩) hHeld ?_
    · (try dsimp only at hSw)
      unfold oH9
      go_simp
    try simp only [oH9, Act.put, List.setIfInBounds_toArray, List.set_cons_zero, List.set_cons_succ]
    refine wpAnyH_take (i := 10) (oi := oH10) (v := .bool true) rfl (by kernel_rfl) (by kernel_rfl) (by kernel_rfl) (fun _ _ _ h => h) (Or.inl ⟨by rfl, fun w hSw => ?_⟩) hHeld ?_
    · (try dsimp only at hSw)
      unfold oH10
      go_simp
    try simp only [oH10, Act.put, List.setIfInBounds_toArray, List.set_cons_zero, List.set_cons_succ]
    refine wpAnyH_take (i := 11) (oi := oH11) (v := undef) rfl (by kernel_rfl) (by kernel_rfl) (by kernel_rfl) (fun _ _ _ h => h) (Or.inr ⟨by rfl, rfl⟩) hHeld ?_
    try simp only [oH11, Act.put, List.setIfInBounds_toArray, List.set_cons_zero, List.set_cons_succ]
    refine wpAnyH_take (i := 12) (oi := oH12) (v := undef) rfl (by kernel_rfl) (by kernel_rfl) (by kernel_rfl) (fun _ _ _ h => h) (Or.inr ⟨by rfl, rfl⟩) hHeld ?_
    try simp only [oH12, Act.put, List.setIfInBounds_toArray, List.set_cons_zero, List.set_cons_succ]
    refine wpAnyH_take (i := 13) (oi := oH13) (v := undef) rfl (by kernel_rfl) (by kernel_rfl) (by kernel_rfl) (fun _ _ _ h => h) (Or.inr ⟨by rfl, rfl⟩) hHeld ?_
    try simp only [oH13, Act.put, List.setIfInBounds_toArray, List.set_cons_zero, List.set_cons_succ]
    refine wpAnyH_take (i := 14) (oi := oH14) (v := undef) rfl (by kernel_rfl) (by kernel_rfl) (by kernel_rfl) (fun _ _ _ h => h) (Or.inr ⟨by rfl, rfl⟩) hHeld ?_
    try simp only [oH14, Act.put, List.setIfInBounds_toArray, List.set_cons_zero, List.set_cons_succ]
    refine wpAnyH_take (i := 15) (oi := oH15) (v := undef) rfl (by kernel_rfl) (by kernel_rfl) (by kernel_rfl) (fun _ _ _ h => h) (Or.inr ⟨by rfl, rfl⟩) hHeld ?_
    try simp only [oH15, Act.put, List.setIfInBounds_toArray, List.set_cons_zero, List.set_cons_succ]
    refine wpAnyH_take (i := 16) (oi := oH16) (v := undef) rfl (by kernel_rfl) (by kernel_rfl) (by kernel_rfl) (fun _ _ _ h => h) (Or.inr ⟨by rfl, rfl⟩) hHeld ?_
    try simp only [oH16, Act.put, List.setIfInBounds_toArray, List.set_cons_zero, List.set_cons_succ]
    refine wpAnyH_take (i := 17) (oi := oH17) (v := undef) rfl (by kernel_rfl) (by kernel_rfl) (by kernel_rfl) (fun _ _ _ h => h) (Or.inr ⟨by rfl, rfl⟩) hHeld ?_
    try simp only [oH17, Act.put, List.setIfInBounds_toArray, List.set_cons_zero, List.set_cons_succ]
    refine wpAnyH_take (i := 18) (oi := oH18) (v := undef) rfl (by kernel_rfl) (by kernel_rfl) (by kernel_rfl) (fun _ _ _ h => h) (Or.inr ⟨by rfl, rfl⟩) hHeld ?_
    try simp only [oH18, Act.put, List.setIfInBounds_toArray, List.set_cons_zero, List.set_cons_succ]
    refine wpAnyH_take (i := 19) (oi := oH19) (v := undef) rfl (by kernel_rfl) (by kernel_rfl) (by kernel_rfl) (fun _ _ _ h => h) (Or.inr ⟨by rfl, rfl⟩) hHeld ?_
    try simp only [oH19, Act.put, List.setIfInBounds_toArray, List.set_cons_zero, List.set_cons_succ]
    refine wpAnyH_take (i := 20) (oi := oH20) (v := undef) rfl (by kernel_rfl) (by kernel_rfl) (by kernel_rfl) (fun _ _ _ h => h) (Or.inr ⟨by rfl, rfl⟩) hHeld ?_
    try simp only [oH20, Act.put, List.setIfInBounds_toArray, List.set_cons_zero, List.set_cons_succ]
    refine wpAnyH_take (i := 21) (oi := oH21) (v := .bool true) rfl (by kernel_rfl) (by kernel_rfl) (by kernel_rfl) (fun _ _ _ h => h) (Or.inl ⟨by rfl, fun w hSw => ?_⟩) hHeld ?_
    · (try dsimp only at hSw)
      unfold oH21
      go_simp
    try simp only [oH21, Act.put, List.setIfInBounds_toArray, List.set_cons_zero, List.set_cons_succ]
    refine wpAnyH_done (by kernel_rfl) ?_ _
    clear K4 K5 K6
    go_wp2
    go_ret
    exact ⟨z.b, 3, unhide IS, rfl, .inr ⟨by omega, Var.any (unhide A4).d.v⟩, Frm.below (unhide A4).d.b bu⟩
  go_region_held3 (fun w' => w'.cell? ⟨g, 0, none⟩ = some (.slice (some ⟨z.ga, 0, none⟩) z.b.ac.length z.ca) ∧ w'.cell? ⟨g, 1, none⟩ = some (.slice (some ⟨z.gi, 0, none⟩) z.b.ic.length z.ci) ∧ w'.cell? ⟨g, 2, none⟩ = some (.slice (some ⟨z.gb, 0, none⟩) z.b.bs.length z.cb) ∧ w'.cell? ⟨g, 3, none⟩ = some (.slice (some ⟨z.gl, 0, none⟩) z.b.ls.length z.cl) ∧ w'.cell? ⟨g, 4, none⟩ = some (.slice (some ⟨z.gt, 0, none⟩) z.b.ts.length z.ct) ∧ w'.cell? ⟨g, 5, none⟩ = some (.int .i64 z.b.lot) ∧ w'.cell? ⟨u.heap.size, 0, none⟩ = some (.int .i64 no) ∧ w'.cell? ⟨u.heap.size, 1, none⟩ = some (.int .i64 fb) ∧ w'.cell? ⟨u.heap.size, 2, none⟩ = some (.int .i64 fs) ∧ w'.cell? ⟨u.heap.size, 3, none⟩ = some (.int .i64 fp) ∧ w'.cell? ⟨u.heap.size, 4, none⟩ = some (.int .i64 fq) ∧ w'.cell? ⟨u.heap.size, 5, none⟩ = some (.int .i64 fc) ∧ w'.cell? ⟨u.heap.size, 6, none⟩ = some (.int .i64 fr) ∧ w'.cell? ⟨u.heap.size, 7, none⟩ = some (.int .i64 1)) (first | exact K4 | exact K5 | exact K6 | exact K7 | exact K8)
    (first | (go_at_call 102; refine (iHaveAccounts _ z w2.heap.size 2 2 [fb, fs] true (unhide A3).d.r (unhide LI).1 rfl (by omega) (by simp) (at_new _ [fb, fs] _ rfl rfl) (unhide H0)).mono ?_; rintro e w3 ⟨rfl, bb⟩; have A4 := hide ((unhide A3).step bb); have A5 := hide ((unhide A4).step (one_more w3 (.cells #[.int .i64 fp, .int .i64 fc] 3))); have K6 := (unhide A4).hold; have K7 := (unhide A5).hold; clear bb) | (go_at_call 103; refine (iHaveInstrs _ z w3.heap.size 2 2 [fp, fc] b1 (unhide A5).d.r (unhide LI).2.1 rfl (by omega) (by simp) (at_new _ [fp, fc] _ rfl rfl) (unhide H1)).mono ?_; rintro e w4 ⟨rfl, bb⟩; have A6 := hide ((unhide A5).step bb); have K8 := (unhide A6).hold; clear bb))
  clear K4 K5 K6 K7 K8 A3 A4 A5
  cases b1
  · have IS := hide (show IsTrade z.b no fb fs fp fq fc fr z.b 3 from .inr (.inl ⟨unhide NA, by
      have := (unhide H1).no
      simp only [List.mem_cons, List.not_mem_nil, or_false, forall_eq_or_imp, forall_eq] at this
      unfold NoneT
      omega, rfl, rfl⟩))
    go_wp2
    go_ret
    exact ⟨z.b, 3, unhide IS, rfl, .inr ⟨by omega, Var.any (unhide A6).d.v⟩, Frm.below (unhide A6).d.b bu⟩
  have NZ := hide (show ¬ NoneT z.b fb fs fp fc from by
    have a := (unhide H0).yes
    have b := (unhide H1).yes
    simp only [List.mem_cons, List.not_mem_nil, or_false, forall_eq_or_imp, forall_eq] at a b
    unfold NoneT
    omega)
  clear H0 H1
  go_wp2_with fail
  have hgw : g < w4.heap.size := Nat.lt_of_lt_of_le gl (unhide A6).d.b.size
  have huw : u.heap.size < w4.heap.size := (unhide A6).t.lt.2
  have C0 : ∀ n : Near w4, n.u.cell? ⟨g, 0, none⟩ = some (.slice (some ⟨z.ga, 0, none⟩) z.b.ac.length z.ca) := fun n => (n.b.cell (p := ⟨g, 0, none⟩) hgw).trans (unhide A6).d.v.c0
  have C1 : ∀ n : Near w4, n.u.cell? ⟨g, 1, none⟩ = some (.slice (some ⟨z.gi, 0, none⟩) z.b.ic.length z.ci) := fun n => (n.b.cell (p := ⟨g, 1, none⟩) hgw).trans (unhide A6).d.v.c1
  have C2 : ∀ n : Near w4, n.u.cell? ⟨g, 2, none⟩ = some (.slice (some ⟨z.gb, 0, none⟩) z.b.bs.length z.cb) := fun n => (n.b.cell (p := ⟨g, 2, none⟩) hgw).trans (unhide A6).d.v.c2
  have C3 : ∀ n : Near w4, n.u.cell? ⟨g, 3, none⟩ = some (.slice (some ⟨z.gl, 0, none⟩) z.b.ls.length z.cl) := fun n => (n.b.cell (p := ⟨g, 3, none⟩) hgw).trans (unhide A6).d.v.c3
  have C4 : ∀ n : Near w4, n.u.cell? ⟨g, 4, none⟩ = some (.slice (some ⟨z.gt, 0, none⟩) z.b.ts.length z.ct) := fun n => (n.b.cell (p := ⟨g, 4, none⟩) hgw).trans (unhide A6).d.v.c4
  have C5 : ∀ n : Near w4, n.u.cell? ⟨g, 5, none⟩ = some (.int .i64 z.b.lot) := fun n => (n.b.cell (p := ⟨g, 5, none⟩) hgw).trans (unhide A6).d.v.c5
  have E0 : ∀ n : Near w4, n.u.cell? ⟨u.heap.size, 0, none⟩ = some (.int .i64 no) := fun n => (n.b.cell (p := ⟨u.heap.size, 0, none⟩) huw).trans (unhide A6).t.c0
  have E1 : ∀ n : Near w4, n.u.cell? ⟨u.heap.size, 1, none⟩ = some (.int .i64 fb) := fun n => (n.b.cell (p := ⟨u.heap.size, 1, none⟩) huw).trans (unhide A6).t.c1
  have E2 : ∀ n : Near w4, n.u.cell? ⟨u.heap.size, 2, none⟩ = some (.int .i64 fs) := fun n => (n.b.cell (p := ⟨u.heap.size, 2, none⟩) huw).trans (unhide A6).t.c2
  have E3 : ∀ n : Near w4, n.u.cell? ⟨u.heap.size, 3, none⟩ = some (.int .i64 fp) := fun n => (n.b.cell (p := ⟨u.heap.size, 3, none⟩) huw).trans (unhide A6).t.c3
  have E4 : ∀ n : Near w4, n.u.cell? ⟨u.heap.size, 4, none⟩ = some (.int .i64 fq) := fun n => (n.b.cell (p := ⟨u.heap.size, 4, none⟩) huw).trans (unhide A6).t.c4
  have E5 : ∀ n : Near w4, n.u.cell? ⟨u.heap.size, 5, none⟩ = some (.int .i64 fc) := fun n => (n.b.cell (p := ⟨u.heap.size, 5, none⟩) huw).trans (unhide A6).t.c5
  have E6 : ∀ n : Near w4, n.u.cell? ⟨u.heap.size, 6, none⟩ = some (.int .i64 fr) := fun n => (n.b.cell (p := ⟨u.heap.size, 6, none⟩) huw).trans (unhide A6).t.c6
  have E7 : ∀ n : Near w4, n.u.cell? ⟨u.heap.size, 7, none⟩ = some (.int .i64 1) := fun n => (n.b.cell (p := ⟨u.heap.size, 7, none⟩) huw).trans (unhide A6).t.c7
  have near := near_is w4
  by_cases same : fb = fs
  · have sb : (fb == fs) = true := eq_true same
    have IS := hide (show IsTrade z.b no fb fs fp fq fc fr z.b 4 from .inr (.inr (.inl ⟨unhide NA, unhide NZ, .inr (.inr (.inl same)), rfl, rfl⟩)))
    clear same
    cases b2
    · refine quiet_near (by kernel_rfl) (by kernel_rfl) ?_
      repeat (go_big_quiet_step (first
        | (go_at_call 104
           rename_i nn
           refine (ITradesFit.iTradeFits nn.u z no fb fs fp fq fc fr 1 false ((unhide A6).d.r.below nn.b) (unhide LI).1 (unhide LI).2.1 (unhide H2)).mono ?_
           rintro e u6 ⟨rfl, b6⟩
           exact ⟨rfl, ⟨u6, next nn.b b6⟩, rfl⟩)))
      refine wpQuiet_nil ?_
      rintro w5 ⟨⟨_, b9⟩, rfl⟩
      have A7 := hide ((unhide A6).step b9)
      clear b9 C0 C1 C2 C3 C4 C5 E0 E1 E2 E3 E4 E5 E6 E7 near A6
      go_wp2
      go_ret
      exact ⟨z.b, 4, unhide IS, rfl, .inr ⟨by omega, Var.any (unhide A7).d.v⟩, Frm.below (unhide A7).d.b bu⟩
    · refine quiet_near (by kernel_rfl) (by kernel_rfl) ?_
      repeat (go_big_quiet_step (first
        | (go_at_call 104
           rename_i nn
           refine (ITradesFit.iTradeFits nn.u z no fb fs fp fq fc fr 1 true ((unhide A6).d.r.below nn.b) (unhide LI).1 (unhide LI).2.1 (unhide H2)).mono ?_
           rintro e u6 ⟨rfl, b6⟩
           exact ⟨rfl, ⟨u6, next nn.b b6⟩, rfl⟩)))
      refine wpQuiet_nil ?_
      rintro w5 ⟨⟨_, b9⟩, rfl⟩
      have A7 := hide ((unhide A6).step b9)
      clear b9 C0 C1 C2 C3 C4 C5 E0 E1 E2 E3 E4 E5 E6 E7 near A6
      go_wp2
      go_ret
      exact ⟨z.b, 4, unhide IS, rfl, .inr ⟨by omega, Var.any (unhide A7).d.v⟩, Frm.below (unhide A7).d.b bu⟩
  have sb : (fb == fs) = false := eq_false same
  cases b2
  · have IS := hide (show IsTrade z.b no fb fs fp fq fc fr z.b 4 from .inr (.inr (.inl ⟨unhide NA, unhide NZ, by
        have h := (unhide H2).no
        unfold TradeFit at h
        unfold KindT
        simp only at h
        omega, rfl, rfl⟩)))
    clear same
    refine quiet_near (by kernel_rfl) (by kernel_rfl) ?_
    repeat (go_big_quiet_step (first
      | (go_at_call 104
         rename_i nn
         refine (ITradesFit.iTradeFits nn.u z no fb fs fp fq fc fr 1 false ((unhide A6).d.r.below nn.b) (unhide LI).1 (unhide LI).2.1 (unhide H2)).mono ?_
         rintro e u6 ⟨rfl, b6⟩
         exact ⟨rfl, ⟨u6, next nn.b b6⟩, rfl⟩)))
    refine wpQuiet_nil ?_
    rintro w5 ⟨⟨_, b9⟩, rfl⟩
    have A7 := hide ((unhide A6).step b9)
    clear b9 C0 C1 C2 C3 C4 C5 E0 E1 E2 E3 E4 E5 E6 E7 near A6
    go_wp2
    go_ret
    exact ⟨z.b, 4, unhide IS, rfl, .inr ⟨by omega, Var.any (unhide A7).d.v⟩, Frm.below (unhide A7).d.b bu⟩
  have NK := hide (show ¬ KindT z.b fb fs fp fc from by
    have h := (unhide H2).yes
    unfold TradeFit at h
    unfold KindT
    simp only at h
    omega)
  clear same
  refine quiet_near (by kernel_rfl) (by kernel_rfl) ?_
  repeat (go_big_quiet_step (first
    | (go_at_call 104
       rename_i nn
       refine (ITradesFit.iTradeFits nn.u z no fb fs fp fq fc fr 1 true ((unhide A6).d.r.below nn.b) (unhide LI).1 (unhide LI).2.1 (unhide H2)).mono ?_
       rintro e u6 ⟨rfl, b6⟩
       exact ⟨rfl, ⟨u6, next nn.b b6⟩, rfl⟩)))
  refine wpQuiet_nil ?_
  rintro w5 ⟨⟨_, b9⟩, rfl⟩
  have A7 := hide ((unhide A6).step b9)
  clear b9 C0 C1 C2 C3 C4 C5 E0 E1 E2 E3 E4 E5 E6 E7 near A6
  clear H2
  have d4 := (unhide A7).d.v.c4
  by_cases full : z.b.ts.length = 30
  · have IS := hide (show IsTrade z.b no fb fs fp fq fc fr z.b 7 from .inr (.inr (.inr (.inl ⟨unhide NA, unhide NZ, unhide NK, full, rfl, rfl⟩))))
    have fi : ((z.b.ts.length : Int) == 30) = true := by rw [full]; rfl
    clear full
    go_wp2
    go_ret
    exact ⟨z.b, 7, unhide IS, rfl, .inr ⟨by omega, Var.any (unhide A7).d.v⟩, Frm.below (unhide A7).d.b bu⟩
  have fi : ((z.b.ts.length : Int) == 30) = false := by
    rw [beq_eq_false_iff_ne]
    omega
  have IS := hide (show IsTrade z.b no fb fs fp fq fc fr { z.b with ts := ins8 z.b.ts k (no, fb, fs, fp, fq, fc, fr, 1) } 0 from .inr (.inr (.inr (.inr ⟨unhide NA, unhide NZ, unhide NK, full, by rw [place_ins (unhide HC) (unhide NA)], rfl⟩))))
  have kl : k ≤ z.b.ts.length := (unhide HC).1
  clear full
  go_wp2_with fail
  have A8 := hide (((unhide A7).step (one_more w5 (.cells #[.int .i64 no, .int .i64 fb, .int .i64 fs, .int .i64 fp, .int .i64 fq, .int .i64 fc, .int .i64 fr, .int .i64 1] 31))).drew)
  have VB := hide (show Own8 31 (w5.alloc (.cells #[.int .i64 no, .int .i64 fb, .int .i64 fs, .int .i64 fp, .int .i64 fq, .int .i64 fc, .int .i64 fr, .int .i64 1] 31)).drew (base + 4) w5.heap.size 1 1 [(no, fb, fs, fp, fq, fc, fr, 1)] from Tup8.lit81 31 w5 (base + 4) no fb fs fp fq fc fr 1 (by have := (unhide A7).d.b.size; omega))
  have hB8 : base + 4 ≤ (w5.alloc (.cells #[.int .i64 no, .int .i64 fb, .int .i64 fs, .int .i64 fp, .int .i64 fq, .int .i64 fc, .int .i64 fr, .int .i64 1] 31)).drew.heap.size := by have := (unhide A8).d.b.size; omega
  have K4 := trivial
  have K5 := trivial
  have tlt := (unhide A7).d.o.ot.lt
  have NE : z.gt ≠ g := by omega
  have NT : z.gt ≠ u.heap.size := by omega
  have d4 := (unhide A7).d.v.c4
  have d4a := (unhide A8).d.v.c4
  have sz5 := (unhide A7).t.lt.2
  have K4 := b8hold (unhide A7).t
  have K5 := b8hold (unhide A8).t
  refine wp_region_held_drew (S := (fun w' => w'.cell? ⟨u.heap.size, 0, none⟩ = some (.int .i64 no) ∧ w'.cell? ⟨u.heap.size, 1, none⟩ = some (.int .i64 fb) ∧ w'.cell? ⟨u.heap.size, 2, none⟩ = some (.int .i64 fs) ∧ w'.cell? ⟨u.heap.size, 3, none⟩ = some (.int .i64 fp) ∧ w'.cell? ⟨u.heap.size, 4, none⟩ = some (.int .i64 fq) ∧ w'.cell? ⟨u.heap.size, 5, none⟩ = some (.int .i64 fc) ∧ w'.cell? ⟨u.heap.size, 6, none⟩ = some (.int .i64 fr) ∧ w'.cell? ⟨u.heap.size, 7, none⟩ = some (.int .i64 1))) (by kernel_rfl) K4 (fun hHeld => ?_)
  refine wpAnyH_take (i := 0) (oi := oI0) (v := .pointer (some ⟨g, 0, none⟩)) rfl (by kernel_rfl) (by kernel_rfl) (by kernel_rfl) (fun _ _ _ h => h) (Or.inl ⟨by rfl, fun w hSw => ?_⟩) hHeld ?_
  · (try dsimp only at hSw)
    unfold oI0
    go_simp
  try simp only [oI0, .slice (some ⟨z.gt, 0, none⟩) z.b.ts.length z.ct]
  refine wpAnyH_take (i := 1) (oi := oI1) (v := .pointer (some ⟨g, 0, none⟩)) rfl (by kernel_rfl) (by kernel_rfl) (by kernel_rfl) (fun _ _ _ h => h) (Or.inl ⟨by rfl, fun w hSw => ?_⟩) hHeld ?_
  · (try dsimp only at hSw)
    unfold oI1
    go_simp
  try simp only [oI1, .slice (some ⟨z.gt, 0, none⟩) z.b.ts.length z.ct]
  refine wpAnyH_take (i := 2) (oi := oI2) (v := .pointer (some ⟨g, 0, none⟩)) rfl (by kernel_rfl) (by kernel_rfl) (by kernel_rfl) (fun _ _ _ h => h) (Or.inl ⟨by rfl, fun w hSw => ?_⟩) hHeld ?_
  · (try dsimp only at hSw)
    unfold oI2
    go_simp
  try simp only [oI2, .slice (some ⟨z.gt, 0, none⟩) z.b.ts.length z.ct]
  refine wpAnyH_take (i := 3) (oi := oI3) (v := .pointer (some ⟨g, 4, none⟩)) rfl (by kernel_rfl) (by kernel_rfl) (by kernel_rfl) (fun _ _ _ h => h) (Or.inl ⟨by rfl, fun w hSw => ?_⟩) hHeld ?_
  · (try dsimp only at hSw)
    unfold oI3
    go_simp
  try simp only [oI3, .slice (some ⟨z.gt, 0, none⟩) z.b.ts.length z.ct]
  refine wpAnyH_take (i := 5) (oi := oI5) (v := .int .i64 (k : Nat)) rfl (by kernel_rfl) (by kernel_rfl) (by kernel_rfl) (fun _ _ _ h => h) (Or.inl ⟨by rfl, fun w hSw => ?_⟩) hHeld ?_
  · (try dsimp only at hSw)
    unfold oI5
    go_simp
  try simp only [oI5, .slice (some ⟨z.gt, 0, none⟩) z.b.ts.length z.ct]
  refine wpAnyH_take (i := 6) (oi := oI6) (v := .agg #[.int .i64 no, .int .i64 fb, .int .i64 fs, .int .i64 fp, .int .i64 fq, .int .i64 fc, .int .i64 fr, .int .i64 1]) rfl (by kernel_rfl) (by kernel_rfl) (by kernel_rfl) (fun _ _ _ h => h) (Or.inl ⟨by rfl, fun w hSw => ?_⟩) hHeld ?_
  · (try dsimp only at hSw)
    unfold oI6
    go_simp
  try simp only [oI6, .slice (some ⟨z.gt, 0, none⟩) z.b.ts.length z.ct]
  refine wpAnyH_ready (rs := [4, 7]) (by kernel_rfl) (by simp) ?_
  refine AllReadyH.cons (o := oI4) rfl (fun K hK => ?_) (AllReadyH.cons (o := oI7) rfl (fun K hK => ?_) AllReadyH.nil)
  · unfold oI4
    go_simp
    refine hK.out _ _ K4 (fun hHeld => ?_)
    clear hK K
    try simp only [oI4, .slice (some ⟨z.gt, 0, none⟩) z.b.ts.length z.ct]
    refine wpAnyH_ready (rs := [7]) (by kernel_rfl) (by simp) ?_
    refine AllReadyH.cons (o := oI7) rfl (fun K hK => ?_) AllReadyH.nil
    unfold oI7
    go_simp
    refine hK.out _ _ K5 (fun hHeld => ?_)
    clear hK K
    try simp only [oI7, .slice (some ⟨z.gt, 0, none⟩) z.b.ts.length z.ct]
    refine wpAnyH_ready (rs := [8]) (by kernel_rfl) (by simp) ?_
    refine AllReadyH.cons (o := oI8) rfl (fun K hK => ?_) AllReadyH.nil
    unfold oI8
    go_simp
    refine (IInsert8.iInsert _ (base + 4) z.gt z.b.ts.length k z.ct w5.heap.size z.b.ts (no, fb, fs, fp, fq, fc, fr, 1) (by omega) hB8 kl (unhide A8).d.o.ot (unhide VB) (by have := tlt.2; omega)).mono ?_
    rintro e w6 ⟨g6, c6, rfl, o6, gr⟩
    have V6 := hide (Box.kept (unhide A8).d.v gr (fun e => by injection e; omega))
    have B6 := hide ((unhide A8).t.kept gr (fun e => by injection e; omega))
    have e4 := (unhide V6).c4
    have e4f := (unhide V6).free 4
    have K6 := b8hold (unhide B6)
    have K7 := b8hold ((unhide B6).kept (Box.set4 (unhide V6) (.slice (some ⟨g6, 0, none⟩) (z.b.ts.length + 1) c6)).2 (fun e => by injection e; omega))
    have O6 := hide o6
    have GR := hide gr
    clear o6 gr
    go_wp2_with fail
    refine hK.out _ _ K6 (fun hHeld => ?_)
    clear hK K
    try simp only [oI8, Act.put, List.setIfInBounds_toArray, List.set_cons_zero, List.set_cons_succ]
    refine wpAnyH_take (i := 9) (oi := oI9) (v := .pointer (some ⟨g, 0, none⟩)) rfl (by kernel_rfl) (by kernel_rfl) (by kernel_rfl) (fun _ _ _ h => h) (Or.inl ⟨by rfl, fun w hSw => ?_⟩) hHeld ?_
    · (try dsimp only at hSw)
      unfold oI9
      go_simp
    try simp only [oI9, Act.put, List.setIfInBounds_toArray, List.set_cons_zero, List.set_cons_succ]
    refine wpAnyH_take (i := 10) (oi := oI10) (v := .pointer (some ⟨g, 4, none⟩)) rfl (by kernel_rfl) (by kernel_rfl) (by kernel_rfl) (fun _ _ _ h => h) (Or.inl ⟨by rfl, fun w hSw => ?_⟩) hHeld ?_
    · (try dsimp only at hSw)
      unfold oI10
      go_simp
    try simp only [oI10, Act.put, List.setIfInBounds_toArray, List.set_cons_zero, List.set_cons_succ]
    refine wpAnyH_ready (rs := [11]) (by kernel_rfl) (by simp) ?_
    refine AllReadyH.cons (o := oI11) rfl (fun K hK => ?_) AllReadyH.nil
    unfold oI11
    go_simp
    refine hK.out _ _ K7 (fun hHeld => ?_)
    clear hK K
    try simp only [oI11, Act.put, List.setIfInBounds_toArray, List.set_cons_zero, List.set_cons_succ]
    refine wpAnyH_done (by kernel_rfl) ?_ _
    go_wp2
    go_ret
    have OZ := (unhide A8).d.o
    have a := row_ne OZ.oa OZ.ot (by decide)
    have b := row_ne OZ.oi OZ.ot (by decide)
    have c := row_ne OZ.ob OZ.ot (by decide)
    have d := row_ne OZ.ol OZ.ot (by decide)
    have il := ins8_len z.b.ts k (no, fb, fs, fp, fq, fc, fr, 1) kl
    have OY : Ow w6 (base + 4) (withT z g6 c6 (ins8 z.b.ts k (no, fb, fs, fp, fq, fc, fr, 1))) := ⟨OZ.oa.kept (unhide GR) (fun e => by injection e; omega), OZ.oi.kept (unhide GR) (fun e => by injection e; omega), OZ.ob.kept (unhide GR) (fun e => by injection e; omega), OZ.ol.kept (unhide GR) (fun e => by injection e; omega), by
      show Own8 31 w6 (base + 4) g6 (ins8 z.b.ts k (no, fb, fs, fp, fq, fc, fr, 1)).length c6 (ins8 z.b.ts k (no, fb, fs, fp, fq, fc, fr, 1))
      rw [il]
      exact unhide O6⟩
    have LO := off_lo (ow_lo OY) hg
    refine ⟨_, 0, unhide IS, rfl, .inl ⟨rfl, withT z g6 c6 (ins8 z.b.ts k (no, fb, fs, fp, fq, fc, fr, 1)), rfl, ?_, ow_set OY LO 4 _⟩, ?_⟩
    · show Box _ base g _ _ _ _ (.slice (some ⟨g6, 0, none⟩) (ins8 z.b.ts k (no, fb, fs, fp, fq, fc, fr, 1)).length c6) _
      rw [il]
      exact (Box.set4 (unhide V6) _).1
    · have s8 := (unhide A8).d.b.size
      exact ((Frm.below (unhide A8).d.b bu).trans (Frm.grown (unhide GR) (.inr tlt.1) (Nat.le_trans bu s8))).trans (Frm.grown (Box.set4 (unhide V6) (.slice (some ⟨g6, 0, none⟩) (z.b.ts.length + 1) c6)).2 (.inl rfl) (Nat.le_trans (Nat.le_trans bu s8) (unhide GR).size))
  · unfold oI7
    go_simp
    refine hK.out _ _ K5 (fun hHeld => ?_)
    clear hK K
    try simp only [oI7, .slice (some ⟨z.gt, 0, none⟩) z.b.ts.length z.ct]
    refine wpAnyH_ready (rs := [4]) (by kernel_rfl) (by simp) ?_
    refine AllReadyH.cons (o := oI4) rfl (fun K hK => ?_) AllReadyH.nil
    unfold oI4
    go_simp
    refine hK.out _ _ K5 (fun hHeld => ?_)
    clear hK K
    try simp only [oI4, .slice (some ⟨z.gt, 0, none⟩) z.b.ts.length z.ct]
    refine wpAnyH_ready (rs := [8]) (by kernel_rfl) (by simp) ?_
    refine AllReadyH.cons (o := oI8) rfl (fun K hK => ?_) AllReadyH.nil
    unfold oI8
    go_simp
    refine (IInsert8.iInsert _ (base + 4) z.gt z.b.ts.length k z.ct w5.heap.size z.b.ts (no, fb, fs, fp, fq, fc, fr, 1) (by omega) hB8 kl (unhide A8).d.o.ot (unhide VB) (by have := tlt.2; omega)).mono ?_
    rintro e w6 ⟨g6, c6, rfl, o6, gr⟩
    have V6 := hide (Box.kept (unhide A8).d.v gr (fun e => by injection e; omega))
    have B6 := hide ((unhide A8).t.kept gr (fun e => by injection e; omega))
    have e4 := (unhide V6).c4
    have e4f := (unhide V6).free 4
    have K6 := b8hold (unhide B6)
    have K7 := b8hold ((unhide B6).kept (Box.set4 (unhide V6) (.slice (some ⟨g6, 0, none⟩) (z.b.ts.length + 1) c6)).2 (fun e => by injection e; omega))
    have O6 := hide o6
    have GR := hide gr
    clear o6 gr
    go_wp2_with fail
    refine hK.out _ _ K6 (fun hHeld => ?_)
    clear hK K
    try simp only [oI8, Act.put, List.setIfInBounds_toArray, List.set_cons_zero, List.set_cons_succ]
    refine wpAnyH_take (i := 9) (oi := oI9) (v := .pointer (some ⟨g, 0, none⟩)) rfl (by kernel_rfl) (by kernel_rfl) (by kernel_rfl) (fun _ _ _ h => h) (Or.inl ⟨by rfl, fun w hSw => ?_⟩) hHeld ?_
    · (try dsimp only at hSw)
      unfold oI9
      go_simp
    try simp only [oI9, Act.put, List.setIfInBounds_toArray, List.set_cons_zero, List.set_cons_succ]
    refine wpAnyH_take (i := 10) (oi := oI10) (v := .pointer (some ⟨g, 4, none⟩)) rfl (by kernel_rfl) (by kernel_rfl) (by kernel_rfl) (fun _ _ _ h => h) (Or.inl ⟨by rfl, fun w hSw => ?_⟩) hHeld ?_
    · (try dsimp only at hSw)
      unfold oI10
      go_simp
    try simp only [oI10, Act.put, List.setIfInBounds_toArray, List.set_cons_zero, List.set_cons_succ]
    refine wpAnyH_ready (rs := [11]) (by kernel_rfl) (by simp) ?_
    refine AllReadyH.cons (o := oI11) rfl (fun K hK => ?_) AllReadyH.nil
    unfold oI11
    go_simp
    refine hK.out _ _ K7 (fun hHeld => ?_)
    clear hK K
    try simp only [oI11, Act.put, List.setIfInBounds_toArray, List.set_cons_zero, List.set_cons_succ]
    refine wpAnyH_done (by kernel_rfl) ?_ _
    go_wp2
    go_ret
    have OZ := (unhide A8).d.o
    have a := row_ne OZ.oa OZ.ot (by decide)
    have b := row_ne OZ.oi OZ.ot (by decide)
    have c := row_ne OZ.ob OZ.ot (by decide)
    have d := row_ne OZ.ol OZ.ot (by decide)
    have il := ins8_len z.b.ts k (no, fb, fs, fp, fq, fc, fr, 1) kl
    have OY : Ow w6 (base + 4) (withT z g6 c6 (ins8 z.b.ts k (no, fb, fs, fp, fq, fc, fr, 1))) := ⟨OZ.oa.kept (unhide GR) (fun e => by injection e; omega), OZ.oi.kept (unhide GR) (fun e => by injection e; omega), OZ.ob.kept (unhide GR) (fun e => by injection e; omega), OZ.ol.kept (unhide GR) (fun e => by injection e; omega), by
      show Own8 31 w6 (base + 4) g6 (ins8 z.b.ts k (no, fb, fs, fp, fq, fc, fr, 1)).length c6 (ins8 z.b.ts k (no, fb, fs, fp, fq, fc, fr, 1))
      rw [il]
      exact unhide O6⟩
    have LO := off_lo (ow_lo OY) hg
    refine ⟨_, 0, unhide IS, rfl, .inl ⟨rfl, withT z g6 c6 (ins8 z.b.ts k (no, fb, fs, fp, fq, fc, fr, 1)), rfl, ?_, ow_set OY LO 4 _⟩, ?_⟩
    · show Box _ base g _ _ _ _ (.slice (some ⟨g6, 0, none⟩) (ins8 z.b.ts k (no, fb, fs, fp, fq, fc, fr, 1)).length c6) _
      rw [il]
      exact (Box.set4 (unhide V6) _).1
    · have s8 := (unhide A8).d.b.size
      exact ((Frm.below (unhide A8).d.b bu).trans (Frm.grown (unhide GR) (.inr tlt.1) (Nat.le_trans bu s8))).trans (Frm.grown (Box.set4 (unhide V6) (.slice (some ⟨g6, 0, none⟩) (z.b.ts.length + 1) c6)).2 (.inl rfl) (Nat.le_trans (Nat.le_trans bu s8) (unhide GR).size))
end Go.Proofs.YteooapfmiammlaaGreat.IAddT
namespace Go.Proofs.YteooapfmiammlaaGreat.TradeTellI
open Go.ChangeShapes Go.WideShapes Go.ChangeAt Go.RowKit BMem Bks ILists BHelp Ans ICopied ICmdB IHave ICmdW ICmdF Trd
open SIssue (six_alloc box_six_alloc to_wb off_box)
open IBalsFit (one_more all_one)
open ITrade (at_new)
open Lots (Says says_of NoOk)
open IssueTellI (says_and more)
open STrade (ToldN)
/-- The books that were handed in, the numbers, and the answer's variable behind them. -/
structure TW (w W : World) (x : Bx) (no fb fs fp fq fc fr : Int) : Prop where
  r : Rd W x
  c : Cl W w.heap.size x
  n1 : W.cell? ⟨w.heap.size + 1, 0, none⟩ = some (.int .i64 no)
  n2 : W.cell? ⟨w.heap.size + 1 + 1, 0, none⟩ = some (.int .i64 fb)
  n3 : W.cell? ⟨w.heap.size + 1 + 1 + 1, 0, none⟩ = some (.int .i64 fs)
  n4 : W.cell? ⟨w.heap.size + 1 + 1 + 1 + 1, 0, none⟩ = some (.int .i64 fp)
  n5 : W.cell? ⟨w.heap.size + 1 + 1 + 1 + 1 + 1, 0, none⟩ = some (.int .i64 fq)
  n6 : W.cell? ⟨w.heap.size + 1 + 1 + 1 + 1 + 1 + 1, 0, none⟩ = some (.int .i64 fc)
  n7 : W.cell? ⟨w.heap.size + 1 + 1 + 1 + 1 + 1 + 1 + 1, 0, none⟩ = some (.int .i64 fr)
  v : Box W w.heap.size (w.heap.size + 1 + 1 + 1 + 1 + 1 + 1 + 1 + 1) (.slice none 0 0) (.slice none 0 0) (.slice none 0 0) (.slice none 0 0) (.slice none 0 0) (.int .i64 0)
  b : Below w.heap.size w W
theorem TW.step {w W W' : World} {x : Bx} {no fb fs fp fq fc fr : Int} (h : TW w W x no fb fs fp fq fc fr) (k : Below W.heap.size W W') : TW w W' x no fb fs fp fq fc fr := by
  have l := h.v.lt
  exact ⟨h.r.below k, h.c.below k (by omega), (k.cell (p := ⟨w.heap.size + 1, 0, none⟩) (by simp <;> omega)).trans h.n1, (k.cell (p := ⟨w.heap.size + 1 + 1, 0, none⟩) (by simp <;> omega)).trans h.n2, (k.cell (p := ⟨w.heap.size + 1 + 1 + 1, 0, none⟩) (by simp <;> omega)).trans h.n3, (k.cell (p := ⟨w.heap.size + 1 + 1 + 1 + 1, 0, none⟩) (by simp <;> omega)).trans h.n4, (k.cell (p := ⟨w.heap.size + 1 + 1 + 1 + 1 + 1, 0, none⟩) (by simp <;> omega)).trans h.n5, (k.cell (p := ⟨w.heap.size + 1 + 1 + 1 + 1 + 1 + 1, 0, none⟩) (by simp <;> omega)).trans h.n6, (k.cell (p := ⟨w.heap.size + 1 + 1 + 1 + 1 + 1 + 1 + 1, 0, none⟩) (by simp <;> omega)).trans h.n7, h.v.below k (by omega), h.b.trans (k.mono h.b.size)⟩
theorem TW.start {w : World} {x : Bx} {no fb fs fp fq fc fr : Int} (h : Rd w x) : TW w (((((((((w.alloc (.cells #[.slice (some ⟨x.ga, 0, none⟩) x.b.ac.length x.ca, .slice (some ⟨x.gi, 0, none⟩) x.b.ic.length x.ci, .slice (some ⟨x.gb, 0, none⟩) x.b.bs.length x.cb, .slice (some ⟨x.gl, 0, none⟩) x.b.ls.length x.cl, .slice (some ⟨x.gt, 0, none⟩) x.b.ts.length x.ct, .int .i64 x.b.lot] 40)).alloc (.cells #[.int .i64 no] 3)).alloc (.cells #[.int .i64 fb] 3)).alloc (.cells #[.int .i64 fs] 3)).alloc (.cells #[.int .i64 fp] 3)).alloc (.cells #[.int .i64 fq] 3)).alloc (.cells #[.int .i64 fc] 3)).alloc (.cells #[.int .i64 fr] 3)).alloc (.cells #[.slice none 0 0, .slice none 0 0, .slice none 0 0, .slice none 0 0, .slice none 0 0, .int .i64 0] 40)) x no fb fs fp fq fc fr := by
  have b : Below (w.heap.size + 1) (w.alloc (.cells #[.slice (some ⟨x.ga, 0, none⟩) x.b.ac.length x.ca, .slice (some ⟨x.gi, 0, none⟩) x.b.ic.length x.ci, .slice (some ⟨x.gb, 0, none⟩) x.b.bs.length x.cb, .slice (some ⟨x.gl, 0, none⟩) x.b.ls.length x.cl, .slice (some ⟨x.gt, 0, none⟩) x.b.ts.length x.ct, .int .i64 x.b.lot] 40)) (((((((((w.alloc (.cells #[.slice (some ⟨x.ga, 0, none⟩) x.b.ac.length x.ca, .slice (some ⟨x.gi, 0, none⟩) x.b.ic.length x.ci, .slice (some ⟨x.gb, 0, none⟩) x.b.bs.length x.cb, .slice (some ⟨x.gl, 0, none⟩) x.b.ls.length x.cl, .slice (some ⟨x.gt, 0, none⟩) x.b.ts.length x.ct, .int .i64 x.b.lot] 40)).alloc (.cells #[.int .i64 no] 3)).alloc (.cells #[.int .i64 fb] 3)).alloc (.cells #[.int .i64 fs] 3)).alloc (.cells #[.int .i64 fp] 3)).alloc (.cells #[.int .i64 fq] 3)).alloc (.cells #[.int .i64 fc] 3)).alloc (.cells #[.int .i64 fr] 3)).alloc (.cells #[.slice none 0 0, .slice none 0 0, .slice none 0 0, .slice none 0 0, .slice none 0 0, .int .i64 0] 40)) :=
    ((((((((Below.refl _ _).alloc (by simp) _).alloc (by simp <;> omega) _).alloc (by simp <;> omega) _).alloc (by simp <;> omega) _).alloc (by simp <;> omega) _).alloc (by simp <;> omega) _).alloc (by simp <;> omega) _).alloc (by simp <;> omega) _
  refine ⟨h.below (((Below.refl w.heap.size w).alloc (Nat.le_refl _) _).trans (b.mono (by omega))), (boxed w x 40).below b (by omega), ?_, ?_, ?_, ?_, ?_, ?_, ?_, Box.made _ _ _ _ _ _ (by simp <;> omega) (by simp), ((Below.refl w.heap.size w).alloc (Nat.le_refl _) _).trans (b.mono (by omega))⟩
  · exact more (more (more (more (more (more (more (cell_new _ _ _ (by simp)) (by simp) _) (by simp <;> omega) _) (by simp <;> omega) _) (by simp <;> omega) _) (by simp <;> omega) _) (by simp <;> omega) _) (by simp <;> omega) _
  · exact more (more (more (more (more (more (cell_new _ _ _ (by simp)) (by simp) _) (by simp <;> omega) _) (by simp <;> omega) _) (by simp <;> omega) _) (by simp <;> omega) _) (by simp <;> omega) _
  · exact more (more (more (more (more (cell_new _ _ _ (by simp)) (by simp) _) (by simp <;> omega) _) (by simp <;> omega) _) (by simp <;> omega) _) (by simp <;> omega) _
  · exact more (more (more (more (cell_new _ _ _ (by simp)) (by simp) _) (by simp <;> omega) _) (by simp <;> omega) _) (by simp <;> omega) _
  · exact more (more (more (cell_new _ _ _ (by simp)) (by simp) _) (by simp <;> omega) _) (by simp <;> omega) _
  · exact more (more (cell_new _ _ _ (by simp)) (by simp) _) (by simp <;> omega) _
  · exact more (cell_new _ _ _ (by simp)) (by simp) _
theorem is_same {b b' : Bk} {no fb fs fp fq fc fr c : Int} (h : IsTrade b no fb fs fp fq fc fr b' c) (hc : c ≠ 0) : IsTrade b no fb fs fp fq fc fr b c := by
  rcases h with ⟨h, rfl, rfl⟩ | ⟨h, h2, rfl, rfl⟩ | ⟨h, h2, h3, rfl, rfl⟩ | ⟨h, h2, h3, h4, rfl, rfl⟩ | ⟨h, h2, h3, h4, rfl, rfl⟩
  · exact .inl ⟨h, rfl, rfl⟩
  · exact .inr (.inl ⟨h, h2, rfl, rfl⟩)
  · exact .inr (.inr (.inl ⟨h, h2, h3, rfl, rfl⟩))
  · exact .inr (.inr (.inr (.inl ⟨h, h2, h3, h4, rfl, rfl⟩)))
  · exact absurd rfl hc
set_option maxRecDepth 100000 in
theorem iClosure (u : World) (z : Bx) (base g : Nat) (p1 p2 p3 p4 p5 p6 p7 : Addr) (no fb fs fp fq fc fr : Int) (h1 : u.cell? p1 = some (.int .i64 no)) (h2 : u.cell? p2 = some (.int .i64 fb)) (h3 : u.cell? p3 = some (.int .i64 fs)) (h4 : u.cell? p4 = some (.int .i64 fp)) (h5 : u.cell? p5 = some (.int .i64 fq)) (h6 : u.cell? p6 = some (.int .i64 fc)) (h7 : u.cell? p7 = some (.int .i64 fr)) (ok : Ok z.b) (V : Var u base g z) (O : Ow u (base + 4) z) (hg : g < base + 4) :
    Calls Tryz.prog 54 #[.pointer (some ⟨g, 0, none⟩), .pointer (some p1), .pointer (some p2), .pointer (some p3), .pointer (some p4), .pointer (some p5), .pointer (some p6), .pointer (some p7)] u (DoesW (fun b' t c => t = 0 ∧ IsTrade z.b no fb fs fp fq fc fr b' c) base g u) := by
  have V1 := hide V
  have O1 := hide O
  have OK := hide ok
  clear V O ok
  go_enter Tryz.func54, Tryz.ntmps54
  go_wp2_with fail
  refine (IAddT.iAddTrade u z base g no fb fs fp fq fc fr (unhide OK) (unhide V1) (unhide O1) hg).mono ?_
  rintro e u' ⟨b', c, hI, rfl, hz, gr⟩
  have HI := hide hI
  have HZ := hide hz
  have GR := hide gr
  clear hI hz gr
  go_wp2
  go_ret2
  exact ⟨b', 0, c, ⟨rfl, unhide HI⟩, rfl, unhide HZ, unhide GR⟩
set_option maxRecDepth 100000 in
set_option maxHeartbeats 8000000 in
theorem iTell (w : World) (x : Bx) (no fb fs fp fq fc fr : Int) (h : Rd w x) :
    Calls Tryz.prog 15 #[.agg #[.slice (some ⟨x.ga, 0, none⟩) x.b.ac.length x.ca, .slice (some ⟨x.gi, 0, none⟩) x.b.ic.length x.ci, .slice (some ⟨x.gb, 0, none⟩) x.b.bs.length x.cb, .slice (some ⟨x.gl, 0, none⟩) x.b.ls.length x.cl, .slice (some ⟨x.gt, 0, none⟩) x.b.ts.length x.ct, .int .i64 x.b.lot], .int .i64 no, .int .i64 fb, .int .i64 fs, .int .i64 fp, .int .i64 fq, .int .i64 fc, .int .i64 fr] w (AnsB (ToldN x.b no fb fs fp fq fc fr) (IsTrade x.b no fb fs fp fq fc fr) w) := by
  obtain ⟨b1, h1⟩ := says_of (∀ y ∈ [no, fb, fs, fp, fc], NoOk y)
  obtain ⟨b2, h2⟩ := says_of (1 ≤ fq ∧ fq ≤ 1000000000000000)
  obtain ⟨b3, h3⟩ := says_of (0 ≤ fr ∧ fr ≤ 1000000000000000)
  have HT := hide (show Says (b1 && (b2 && b3)) (NoOk no ∧ NoOk fb ∧ NoOk fs ∧ NoOk fp ∧ (1 ≤ fq ∧ fq ≤ 1000000000000000) ∧ NoOk fc ∧ (0 ≤ fr ∧ fr ≤ 1000000000000000)) from by
    have a := says_and h1 (says_and h2 h3)
    refine ⟨fun e => ?_, fun r => a.of ⟨?_, r.2.2.2.2.1, r.2.2.2.2.2.2⟩⟩
    · have := a.1 e
      exact ⟨this.1 no (by simp), this.1 fb (by simp), this.1 fs (by simp), this.1 fp (by simp), this.2.1, this.1 fc (by simp), this.2.2⟩
    · intro y hy
      simp only [List.mem_cons, List.not_mem_nil, or_false] at hy
      rcases hy with rfl | rfl | rfl | rfl | rfl
      · exact r.1
      · exact r.2.1
      · exact r.2.2.1
      · exact r.2.2.2.1
      · exact r.2.2.2.2.2.1)
  have H1 := hide h1
  have H2 := hide h2
  have H3 := hide h3
  have S0 := hide (TW.start (no := no) (fb := fb) (fs := fs) (fp := fp) (fq := fq) (fc := fc) (fr := fr) h)
  clear h1 h2 h3 h
  go_enter Tryz.func15, Tryz.ntmps15
  go_wp2_with fail
  have S1 := hide ((unhide S0).step (one_more _ (.cells #[.int .i64 no, .int .i64 fb, .int .i64 fs, .int .i64 fp, .int .i64 fc] 3)))
  refine (iNumbers _ (w.heap.size + 1 + 1 + 1 + 1 + 1 + 1 + 1 + 1 + 1) 5 5 [no, fb, fs, fp, fc] b1 rfl (by omega) (by simp) (at_new _ [no, fb, fs, fp, fc] _ (by simp) rfl) (unhide H1)).mono ?_
  rintro e w2 ⟨rfl, bb⟩
  have S2 := hide ((unhide S1).step bb)
  clear bb S1 S0
  obtain ⟨c0, c1, c2, c3, c4, c5⟩ := (unhide S2).c
  have m1 := (unhide S2).n1
  have m2 := (unhide S2).n2
  have m3 := (unhide S2).n3
  have m4 := (unhide S2).n4
  have m5 := (unhide S2).n5
  have m6 := (unhide S2).n6
  have m7 := (unhide S2).n7
  have hmf : ∀ (fn : Fn) (first cp : Array Value) (w : World), (Instr.makeFunc fn first cp).run Tryz.prog w = .ok (.func fn first cp) w := fun _ _ _ _ => rfl
  have HF := hide (show Ok x.b → (NoOk no ∧ NoOk fb ∧ NoOk fs ∧ NoOk fp ∧ (1 ≤ fq ∧ fq ≤ 1000000000000000) ∧ NoOk fc ∧ (0 ≤ fr ∧ fr ≤ 1000000000000000)) → ∀ (u : World) (z : Bx), z.b = x.b → Var u w2.heap.size (w2.heap.size + 1) z → Ow u (w2.heap.size + 4) z → Below w2.heap.size w2 u → Calls Tryz.prog 54 (#[.pointer (some ⟨w2.heap.size + 1, 0, none⟩)] ++ #[.pointer (some ⟨w.heap.size + 1, 0, none⟩), .pointer (some ⟨w.heap.size + 1 + 1, 0, none⟩), .pointer (some ⟨w.heap.size + 1 + 1 + 1, 0, none⟩), .pointer (some ⟨w.heap.size + 1 + 1 + 1 + 1, 0, none⟩), .pointer (some ⟨w.heap.size + 1 + 1 + 1 + 1 + 1, 0, none⟩), .pointer (some ⟨w.heap.size + 1 + 1 + 1 + 1 + 1 + 1, 0, none⟩), .pointer (some ⟨w.heap.size + 1 + 1 + 1 + 1 + 1 + 1 + 1, 0, none⟩)]) u (DoesW (fun b' t c => t = 0 ∧ IsTrade x.b no fb fs fp fq fc fr b' c) w2.heap.size (w2.heap.size + 1) u) from by
    intro ok ta u z hz V O bb
    have l := (unhide S2).v.lt
    have q := iClosure u z w2.heap.size (w2.heap.size + 1) ⟨w.heap.size + 1, 0, none⟩ ⟨w.heap.size + 1 + 1, 0, none⟩ ⟨w.heap.size + 1 + 1 + 1, 0, none⟩ ⟨w.heap.size + 1 + 1 + 1 + 1, 0, none⟩ ⟨w.heap.size + 1 + 1 + 1 + 1 + 1, 0, none⟩ ⟨w.heap.size + 1 + 1 + 1 + 1 + 1 + 1, 0, none⟩ ⟨w.heap.size + 1 + 1 + 1 + 1 + 1 + 1 + 1, 0, none⟩ no fb fs fp fq fc fr ((bb.cell (p := ⟨w.heap.size + 1, 0, none⟩) (by simp <;> omega)).trans m1) ((bb.cell (p := ⟨w.heap.size + 1 + 1, 0, none⟩) (by simp <;> omega)).trans m2) ((bb.cell (p := ⟨w.heap.size + 1 + 1 + 1, 0, none⟩) (by simp <;> omega)).trans m3) ((bb.cell (p := ⟨w.heap.size + 1 + 1 + 1 + 1, 0, none⟩) (by simp <;> omega)).trans m4) ((bb.cell (p := ⟨w.heap.size + 1 + 1 + 1 + 1 + 1, 0, none⟩) (by simp <;> omega)).trans m5) ((bb.cell (p := ⟨w.heap.size + 1 + 1 + 1 + 1 + 1 + 1, 0, none⟩) (by simp <;> omega)).trans m6) ((bb.cell (p := ⟨w.heap.size + 1 + 1 + 1 + 1 + 1 + 1 + 1, 0, none⟩) (by simp <;> omega)).trans m7) (by rw [hz]; exact ok) V O (by omega)
    rw [hz] at q
    exact q)
  cases b1
  rotate_left
  go_wp2_with fail
  refine (IHave.iFrom 1 fq b2 _ (unhide H2)).mono ?_
  rintro e v1 ⟨rfl, hv⟩
  rw [hv]
  clear hv
  cases b2
  rotate_left
  go_wp2_with fail
  refine (IHave.iFrom 0 fr b3 _ (unhide H3)).mono ?_
  rintro e v2 ⟨rfl, hv⟩
  rw [hv]
  clear hv
  cases b3
  all_goals
    (clear H1 H2 H3
     go_wp2_with fail
     refine (iCmdW _ x _ (NoOk no ∧ NoOk fb ∧ NoOk fs ∧ NoOk fp ∧ (1 ≤ fq ∧ fq ≤ 1000000000000000) ∧ NoOk fc ∧ (0 ≤ fr ∧ fr ≤ 1000000000000000)) 54 _ (fun b' t c => t = 0 ∧ IsTrade x.b no fb fs fp fq fc fr b' c) (unhide S2).r (unhide HT) (fun _ _ => rfl) (unhide HF)).mono ?_
     clear HF HT
     intro e w3 hA
     obtain ⟨a0, a1, a2, a3, a4, n0, n1, n2, n3, n4, k0, k1, k2, k3, k4, l, t, c, rfl, fin, bb⟩ := fin_of hA
     have S3 := hide ((unhide S2).step bb)
     have FN := hide fin
     have lw : w.heap.size + 1 + 1 + 1 + 1 + 1 + 1 + 1 + 1 < w2.heap.size := (unhide S2).v.lt.2
     have lw3 : w.heap.size + 1 + 1 + 1 + 1 + 1 + 1 + 1 + 1 < w3.heap.size := (unhide S3).v.lt.2
     have lw4 : w.heap.size + 1 + 1 + 1 + 1 + 1 + 1 + 1 + 1 ≠ w3.heap.size := by omega
     clear hA fin bb c0 c1 c2 c3 c4 c5 m1 m2 m3 m4 m5 m6 m7
     have r0 := (unhide S3).v.c0
     have r1 := (unhide S3).v.c1
     have r2 := (unhide S3).v.c2
     have r3 := (unhide S3).v.c3
     have r4 := (unhide S3).v.c4
     have r5 := (unhide S3).v.c5
     have f0 := (unhide S3).v.free 0
     have f1 := (unhide S3).v.free 1
     have f2 := (unhide S3).v.free 2
     have f3 := (unhide S3).v.free 3
     have f4 := (unhide S3).v.free 4
     have f5 := (unhide S3).v.free 5
     go_wp2
     refine to_wb (fun W => Box W w.heap.size (w.heap.size + 1 + 1 + 1 + 1 + 1 + 1 + 1 + 1) (.slice a0 n0 k0) (.slice a1 n1 k1) (.slice a2 n2 k2) (.slice a3 n3 k3) (.slice a4 n4 k4) (.int .i64 l) ∧ Fin ((NoOk no ∧ NoOk fb ∧ NoOk fs ∧ NoOk fp ∧ (1 ≤ fq ∧ fq ≤ 1000000000000000) ∧ NoOk fc ∧ (0 ≤ fr ∧ fr ≤ 1000000000000000)) ∧ Ok x.b) x.b (fun b' t c => t = 0 ∧ IsTrade x.b no fb fs fp fq fc fr b' c) w2.heap.size a0 a1 a2 a3 a4 n0 n1 n2 n3 n4 k0 k1 k2 k3 k4 l t c W ∧ Below w.heap.size w W) ?_ ?_
     · exact ⟨box_six_alloc (unhide S3).v _ _ _ _ _ _ _, ((unhide FN).six (unhide S3).v _ _ _ _ _ _).alloc _, six_alloc (unhide S3).b (unhide S3).b.size (by omega) _ _ _ _ _ _ _⟩
     rintro W ⟨X, FI, B⟩
     have g0 := X.c0
     have g1 := X.c1
     have g2 := X.c2
     have g3 := X.c3
     have g4 := X.c4
     have g5 := X.c5
     exact bodyPost_ret (v := .tuple #[.agg #[.slice a0 n0 k0, .slice a1 n1 k1, .slice a2 n2 k2, .slice a3 n3 k3, .slice a4 n4 k4, .int .i64 l], .int .i64 c]) (by simp [results, Tryz.results15, go_sem, g0, g1, g2, g3, g4, g5]) rfl (by
         have A := fin_ansB (w := w) (Q := IsTrade x.b no fb fs fp fq fc fr) FI (unhide S2).b.size B (fun b' t h => h.2) (fun b' t c h hc => is_same h.2 hc)
         rcases A with ⟨a, a2, a3⟩ | ⟨a, a2⟩
         · exact .inl ⟨fun hh => a ⟨hh.2, hh.1⟩, a2, a3⟩
         · exact .inr ⟨⟨a.2, a.1⟩, a2⟩))
end Go.Proofs.YteooapfmiammlaaGreat.TradeTellI
