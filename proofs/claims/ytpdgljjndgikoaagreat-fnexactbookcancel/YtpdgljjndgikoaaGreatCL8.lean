/- Texts of one proof, one behind the other: SCancel, IEnd, CancelTellI. -/
import Derived.Test.YtpdgljjndgikoaaGreatRows
import Derived.Test.YtpdgljjndgikoaaGreatCA1
import Derived.Test.YtpdgljjndgikoaaGreatCA2
import Derived.Test.YtpdgljjndgikoaaGreatCL3
import Derived.Test.YtpdgljjndgikoaaGreatCL4
import Derived.Test.YtpdgljjndgikoaaGreatCL5
import Derived.Test.YtpdgljjndgikoaaGreatCL6
import Derived.Test.YtpdgljjndgikoaaGreatCL7
set_option linter.unusedVariables false
set_option linter.unusedSimpArgs false
namespace Go.Proofs.YtpdgljjndgikoaaGreat.SCancel
open Go.ChangeShapes Go.WideShapes Go.ChangeAt Go.RowKit BMem Bks ILists BHelp Ans Trd TBox
open IBalsFit (one_more)
open Lots (Says says_of NoOk)
open Tup8 (T8 el8)
open SIssue (to_wb off_box eq_false)
def ToldC (b : Bk) (no : Int) : Prop := Ok b ∧ NoOk no
set_option maxRecDepth 100000 in
set_option maxHeartbeats 16000000 in
theorem sCancel (w : World) (x : Bx) (no : Int) (hr : Rd w x) :
    Calls Tryz.prog 6 #[.agg #[.slice (some ⟨x.ga, 0, none⟩) x.b.ac.length x.ca, .slice (some ⟨x.gi, 0, none⟩) x.b.ic.length x.ci, .slice (some ⟨x.gb, 0, none⟩) x.b.bs.length x.cb, .slice (some ⟨x.gl, 0, none⟩) x.b.ls.length x.cl, .slice (some ⟨x.gt, 0, none⟩) x.b.ts.length x.ct, .int .i64 x.b.lot], .int .i64 no] w (AnsB (ToldC x.b no) (IsCancel x.b no) w) := by
  obtain ⟨b0, h0⟩ := says_of (Ok x.b)
  obtain ⟨b1, h1⟩ := says_of (NoOk no)
  have H0 := hide h0
  have H1 := hide h1
  have S0 := hide (SR.start hr)
  have HR := hide hr
  have nt := hr.nt
  clear h0 h1 hr
  go_enter Tryz.func6, Tryz.ntmps6
  go_wp2_with fail
  refine (SBooksOk.sBooksOk _ x b0 (unhide S0).r (unhide H0)).mono ?_
  rintro e w1 ⟨rfl, bb⟩
  have S1 := hide ((unhide S0).step bb)
  have B1 := hide (unhide S1).b
  clear bb
  obtain ⟨c0, c1, c2, c3, c4, c5⟩ := (unhide S1).c
  have r0 := (unhide S1).v.c0
  have r1 := (unhide S1).v.c1
  have r2 := (unhide S1).v.c2
  have r3 := (unhide S1).v.c3
  have r4 := (unhide S1).v.c4
  have r5 := (unhide S1).v.c5
  have f0 := (unhide S1).v.free 0
  have f1 := (unhide S1).v.free 1
  have f2 := (unhide S1).v.free 2
  have f3 := (unhide S1).v.free 3
  have f4 := (unhide S1).v.free 4
  have f5 := (unhide S1).v.free 5
  cases b0
  · have N := hide (show ¬ ToldC x.b no from fun hh => (unhide H0).no hh.1)
    go_wp2
    refine bodyPost_ret (v := .tuple #[.agg #[.slice none 0 0, .slice none 0 0, .slice none 0 0, .slice none 0 0, .slice none 0 0, .int .i64 0], .int .i64 1]) (by simp [results, Tryz.results6, go_sem, r0, r1, r2, r3, r4, r5]) rfl (.inl ⟨unhide N, rfl, ?_⟩)
    exact six (unhide B1) (by omega) _ _ _ _ _ _
  go_wp2_with fail
  refine (SOk5.sNo no b1 _ (unhide H1)).mono ?_
  rintro e v1 ⟨rfl, rfl⟩
  cases b1
  · have N := hide (show ¬ ToldC x.b no from fun hh => (unhide H1).no hh.2)
    go_wp2
    refine bodyPost_ret (v := .tuple #[.agg #[.slice none 0 0, .slice none 0 0, .slice none 0 0, .slice none 0 0, .slice none 0 0, .int .i64 0], .int .i64 1]) (by simp [results, Tryz.results6, go_sem, r0, r1, r2, r3, r4, r5]) rfl (.inl ⟨unhide N, rfl, ?_⟩)
    exact six (unhide B1) (by omega) _ _ _ _ _ _
  have TT := hide (show ToldC x.b no from ⟨(unhide H0).yes, (unhide H1).yes⟩)
  clear H0 H1 S0
  go_wp2_with fail
  refine (SCopy.sCopy _ x (unhide S1).r).mono ?_
  rintro e w3 ⟨z, hz, rfl, oz, bb⟩
  have S3 := hide ((unhide S1).step bb)
  have S4 := hide ((unhide S3).step (one_more w3 (.cells #[.slice (some ⟨z.ga, 0, none⟩) z.b.ac.length z.ca, .slice (some ⟨z.gi, 0, none⟩) z.b.ic.length z.ci, .slice (some ⟨z.gb, 0, none⟩) z.b.bs.length z.cb, .slice (some ⟨z.gl, 0, none⟩) z.b.ls.length z.cl, .slice (some ⟨z.gt, 0, none⟩) z.b.ts.length z.ct, .int .i64 z.b.lot] 36)))
  have V4 := hide (Box.made (w := w3) (base := w.heap.size) (g := w3.heap.size) (.slice (some ⟨z.ga, 0, none⟩) z.b.ac.length z.ca) (.slice (some ⟨z.gi, 0, none⟩) z.b.ic.length z.ci) (.slice (some ⟨z.gb, 0, none⟩) z.b.bs.length z.cb) (.slice (some ⟨z.gl, 0, none⟩) z.b.ls.length z.cl) (.slice (some ⟨z.gt, 0, none⟩) z.b.ts.length z.ct) (.int .i64 z.b.lot) (unhide S3).b.size rfl)
  have O4 := hide (ow_alloc (oz.rebase (unhide S1).b.size) (.cells #[.slice (some ⟨z.ga, 0, none⟩) z.b.ac.length z.ca, .slice (some ⟨z.gi, 0, none⟩) z.b.ic.length z.ci, .slice (some ⟨z.gb, 0, none⟩) z.b.bs.length z.cb, .slice (some ⟨z.gl, 0, none⟩) z.b.ls.length z.cl, .slice (some ⟨z.gt, 0, none⟩) z.b.ts.length z.ct, .int .i64 z.b.lot] 36))
  have HZ := hide hz
  have LZ := hide (show z.b.ts.length = x.b.ts.length by rw [hz])
  have l3 := (unhide S3).v.lt
  clear bb oz hz
  clear c0 c1 c2 c3 c4 c5 r0 r1 r2 r3 r4 r5 f0 f1 f2 f3 f4 f5
  obtain ⟨c0, c1, c2, c3, c4, c5⟩ := (unhide S4).c
  have r0 := (unhide S4).v.c0
  have r1 := (unhide S4).v.c1
  have r2 := (unhide S4).v.c2
  have r3 := (unhide S4).v.c3
  have r4 := (unhide S4).v.c4
  have r5 := (unhide S4).v.c5
  have f0 := (unhide S4).v.free 0
  have f1 := (unhide S4).v.free 1
  have f2 := (unhide S4).v.free 2
  have f3 := (unhide S4).v.free 3
  have f4 := (unhide S4).v.free 4
  have f5 := (unhide S4).v.free 5
  have n4 : w.heap.size ≠ w3.heap.size := by omega
  go_wp2_with fail
  clear S3
  generalize w3.alloc (.cells #[.slice (some ⟨z.ga, 0, none⟩) z.b.ac.length z.ca, .slice (some ⟨z.gi, 0, none⟩) z.b.ic.length z.ci, .slice (some ⟨z.gb, 0, none⟩) z.b.bs.length z.cb, .slice (some ⟨z.gl, 0, none⟩) z.b.ls.length z.cl, .slice (some ⟨z.gt, 0, none⟩) z.b.ts.length z.ct, .int .i64 z.b.lot] 36) = w4 at *
  refine (STrd.sOpenAt _ x no (unhide S4).r).mono ?_
  rintro e w5 ⟨r, c, ho, rfl, bb⟩
  have S5 := hide ((unhide S4).step bb)
  have V5 := hide ((unhide V4).below bb (unhide V4).lt.2)
  have O5 := hide ((unhide O4).below bb (Nat.le_refl _))
  have F1 := hide (off_box (unhide O5) (unhide S5).v)
  have F2 := hide (off_box (unhide O5) (unhide V5))
  have n1 := (unhide F1).2.2.2.2
  have n2 := (unhide F2).2.2.2.2
  have n3 : w.heap.size + 1 ≠ w3.heap.size := by omega
  clear bb S4 V4 O4
  clear c0 c1 c2 c3 c4 c5 r0 r1 r2 r3 r4 r5 f0 f1 f2 f3 f4 f5
  obtain ⟨c0, c1, c2, c3, c4, c5⟩ := (unhide S5).c
  have r0 := (unhide S5).v.c0
  have r1 := (unhide S5).v.c1
  have r2 := (unhide S5).v.c2
  have r3 := (unhide S5).v.c3
  have r4 := (unhide S5).v.c4
  have r5 := (unhide S5).v.c5
  have f0 := (unhide S5).v.free 0
  have f1 := (unhide S5).v.free 1
  have f2 := (unhide S5).v.free 2
  have f3 := (unhide S5).v.free 3
  have f4 := (unhide S5).v.free 4
  have f5 := (unhide S5).v.free 5
  have a0 := (unhide V5).c0
  have a1 := (unhide V5).c1
  have a2 := (unhide V5).c2
  have a3 := (unhide V5).c3
  have a4 := (unhide V5).c4
  have a5 := (unhide V5).c5
  have af0 := (unhide V5).free 0
  have af1 := (unhide V5).free 1
  have af2 := (unhide V5).free 2
  have af3 := (unhide V5).free 3
  have af4 := (unhide V5).free 4
  have af5 := (unhide V5).free 5
  rcases ho with ⟨hn, rfl, rfl⟩ | ⟨k, hk, rfl, ⟨hst, rfl⟩ | ⟨hst, rfl⟩⟩
  · have IZ := hide (show IsCancel x.b no z.b 3 from .inl ⟨hn, unhide HZ, rfl⟩)
    clear hn
    go_wp2
    refine bodyPost_ret (v := .tuple #[.agg #[.slice (some ⟨z.ga, 0, none⟩) z.b.ac.length z.ca, .slice (some ⟨z.gi, 0, none⟩) z.b.ic.length z.ci, .slice (some ⟨z.gb, 0, none⟩) z.b.bs.length z.cb, .slice (some ⟨z.gl, 0, none⟩) z.b.ls.length z.cl, .slice (some ⟨z.gt, 0, none⟩) z.b.ts.length z.ct, .int .i64 z.b.lot], .int .i64 3]) (by simp [results, Tryz.results6, go_sem, r0, r1, r2, r3, r4, r5]) rfl (.inr ⟨unhide TT, z, 3, unhide IZ, rfl, ?_, ?_⟩)
    · exact ow_six (unhide O5) (unhide F1) _ _ _ _ _ _
    · exact six (unhide S5).b (by omega) _ _ _ _ _ _
  · have IZ := hide (show IsCancel x.b no z.b 6 from .inr ⟨k, hk, .inl ⟨hst, unhide HZ, rfl⟩⟩)
    clear hk hst
    go_wp2
    refine bodyPost_ret (v := .tuple #[.agg #[.slice (some ⟨z.ga, 0, none⟩) z.b.ac.length z.ca, .slice (some ⟨z.gi, 0, none⟩) z.b.ic.length z.ci, .slice (some ⟨z.gb, 0, none⟩) z.b.bs.length z.cb, .slice (some ⟨z.gl, 0, none⟩) z.b.ls.length z.cl, .slice (some ⟨z.gt, 0, none⟩) z.b.ts.length z.ct, .int .i64 z.b.lot], .int .i64 6]) (by simp [results, Tryz.results6, go_sem, r0, r1, r2, r3, r4, r5]) rfl (.inr ⟨unhide TT, z, 6, unhide IZ, rfl, ?_, ?_⟩)
    · exact ow_six (unhide O5) (unhide F1) _ _ _ _ _ _
    · exact six (unhide S5).b (by omega) _ _ _ _ _ _
  · have IZ := hide (show IsCancel x.b no (withS z k 3).b 0 from .inr ⟨k, hk, .inr ⟨hst, by show ({ z.b with ts := setState z.b.ts k 3 } : Bk) = _; rw [unhide HZ], rfl⟩⟩)
    have t : k < z.b.ts.length := by rw [unhide LZ]; exact hk.1
    have nz : z.b.ts.length ≤ 1048576 := by rw [unhide LZ]; exact nt
    obtain ⟨d0, d1, d2, d3, d4, d5, d6, d7⟩ := (unhide O5).ot.at k t
    have d8 := (unhide O5).ot.free (k * 8 + 7)
    have gl := (unhide O5).ot.lt
    clear hk hst d0 d1 d2 d3 d4 d5 d6
    go_wp2
    refine to_wb (fun W => Box W w.heap.size (w.heap.size + 1) (.slice (some ⟨z.ga, 0, none⟩) z.b.ac.length z.ca) (.slice (some ⟨z.gi, 0, none⟩) z.b.ic.length z.ci) (.slice (some ⟨z.gb, 0, none⟩) z.b.bs.length z.cb) (.slice (some ⟨z.gl, 0, none⟩) z.b.ls.length z.cl) (.slice (some ⟨z.gt, 0, none⟩) z.b.ts.length z.ct) (.int .i64 z.b.lot) ∧ Below w.heap.size w W ∧ Ow W w.heap.size (withS z k 3)) ?_ ?_
    · exact ⟨(box_six ((unhide S5).v.kept (state_grown (unhide O5) k 3) (fun e => by injection e; omega)) _ _ _ _ _ _).1, six ((unhide S5).b.setCell (p := ⟨z.gt, k * 8 + 7, none⟩) gl.1 _) (by omega) _ _ _ _ _ _, ow_six (ow_state (unhide O5) k 3) (unhide F1) _ _ _ _ _ _⟩
    rintro W ⟨X, B, OW⟩
    have p0 := X.c0
    have p1 := X.c1
    have p2 := X.c2
    have p3 := X.c3
    have p4 := X.c4
    have p5 := X.c5
    exact bodyPost_ret (v := .tuple #[.agg #[.slice (some ⟨z.ga, 0, none⟩) z.b.ac.length z.ca, .slice (some ⟨z.gi, 0, none⟩) z.b.ic.length z.ci, .slice (some ⟨z.gb, 0, none⟩) z.b.bs.length z.cb, .slice (some ⟨z.gl, 0, none⟩) z.b.ls.length z.cl, .slice (some ⟨z.gt, 0, none⟩) z.b.ts.length z.ct, .int .i64 z.b.lot], .int .i64 0]) (by simp [results, Tryz.results6, go_sem, p0, p1, p2, p3, p4, p5]) rfl (.inr ⟨unhide TT, withS z k 3, 0, unhide IZ, by simp [set_len], OW, B⟩)
end Go.Proofs.YtpdgljjndgikoaaGreat.SCancel
namespace Go.Proofs.YtpdgljjndgikoaaGreat.IEnd
open Go.ChangeShapes Go.WideShapes Go.ChangeAt Go.RowKit BMem Bks ILists BHelp Ans ICopied ICmdB IHave SBk ITakeBk ICmdW Trd
open SIssue (posted_small posted_lot ne_true eq_false)
open IBalsFit (one_more all_one)
open Lots (Says says_of NoOk)
open Bals (T3)
open Tup8 (T8 el8)
open TBox (withS ow_state state_grown)
open ISet (SetP)
open IPlace8 (IsPlace8 StandsAt8 place_at place_none iPlace)
theorem var_state {W : World} {base g : Nat} {z : Bx} (V : Var W base g z) (O : Ow W (base + 4) z) (hg : g < base + 4) (k : Nat) (s : Int) : Var (W.setCell ⟨z.gt, k * 8 + 7, none⟩ (.int .i64 s)) base g (withS z k s) := by
  have h := Box.kept V (state_grown O k s) (fun e => by injection e; have := O.ot.lt; omega)
  unfold Var
  show Box _ base g _ _ _ _ (.slice (some ⟨z.gt, 0, none⟩) (setState z.b.ts k s).length z.ct) _
  rw [set_len]
  exact h
def OpenP (b : Bk) (k : Nat) (kind way : Int) (b' : Bk) (t c : Int) : Prop :=
  (kind = 0 ∧ b' = { b with ts := setState b.ts k 3 } ∧ t = 0 ∧ c = 0) ∨
  (kind = 1 ∧ ∃ b3 ga, SetP b (el8 b.ts k) way b3 ga c ∧ (c = 0 → t = ga ∧ b' = { b3 with ts := setState b3.ts k 2 }) ∧ (c ≠ 0 → b' = b))
set_option maxRecDepth 100000 in
set_option maxHeartbeats 8000000 in
theorem iEndOpen (u : World) (z : Bx) (base g k : Nat) (kind way : Int) (ok : Ok z.b) (hk : k < z.b.ts.length) (kd : kind = 0 ∨ kind = 1) (V : Var u base g z) (O : Ow u (base + 4) z) (hg : g < base + 4) :
    Calls Tryz.prog 74 #[.pointer (some ⟨g, 0, none⟩), .pointer (some ⟨z.gt, k * 8, none⟩), .agg #[.int .i64 kind, .int .i64 way]] u (DoesW (OpenP z.b k kind way) base g u) := by
  have TO := hide (ok.1.2.2.2.2.1.2 k hk).1
  have LI := hide ok.1
  have SM := hide (ok_small ok)
  have D0 := hide ((DW.start V O (ok_small ok)).step (one_more u (.cells #[.int .i64 kind, .int .i64 way] 68)))
  have gl := (Box.lt V).2
  have bu : base + 4 ≤ u.heap.size := by have := O.oa.lt; omega
  have tl := O.ot.lt
  have w1way : (u.alloc (.cells #[.int .i64 kind, .int .i64 way] 68)).cell? ⟨u.heap.size, 1, none⟩ = some (.int .i64 way) := by simp
  have VU := hide V
  have OU := hide O
  clear ok V O
  rcases kd with rfl | rfl
  · have e7 := ((unhide D0).o.ot.at k hk).2.2.2.2.2.2.2
    have e8 := (unhide D0).o.ot.free (k * 8 + 7)
    go_enter Tryz.func74, Tryz.ntmps74
    go_wp2
    go_ret2
    exact ⟨_, 0, 0, .inl ⟨rfl, rfl, rfl, rfl⟩, rfl, .inl ⟨rfl, withS z k 3, rfl, World.ownsRow.alloc (var_state (unhide VU) (unhide OU) hg k 3) _, ow_alloc (ow_state (unhide OU) k 3) _⟩, (Frm.grown (state_grown (unhide OU) k 3) (.inr tl.1) bu).trans (Frm.below (one_more _ _) (by simpa using bu))⟩
  · go_enter Tryz.func74, Tryz.ntmps74
    go_wp2_with fail
    have z0 : u.heap.size < (u.alloc (.cells #[.int .i64 1, .int .i64 way] 68)).heap.size := by simp
    generalize u.alloc (.cells #[.int .i64 1, .int .i64 way] 68) = w1 at *
    obtain ⟨d0, d1, d2, d3, d4, d5, d6, d7⟩ := ((unhide D0).o.ot.at k hk)
    generalize hpt : el8 z.b.ts k = pt at *
    obtain ⟨n, b, s, p, q, c, r, st⟩ := pt
    have HPT := hide hpt
    clear hpt
    have D1 := hide ((unhide D0).drew)
    have K4 : w1.cell? ⟨z.gt, k * 8, none⟩ = some (.int .i64 n) ∧ w1.cell? ⟨z.gt, k * 8 + 1, none⟩ = some (.int .i64 b) ∧ w1.cell? ⟨z.gt, k * 8 + 2, none⟩ = some (.int .i64 s) ∧ w1.cell? ⟨z.gt, k * 8 + 3, none⟩ = some (.int .i64 p) ∧ w1.cell? ⟨z.gt, k * 8 + 4, none⟩ = some (.int .i64 q) ∧ w1.cell? ⟨z.gt, k * 8 + 5, none⟩ = some (.int .i64 c) ∧ w1.cell? ⟨z.gt, k * 8 + 6, none⟩ = some (.int .i64 r) ∧ w1.cell? ⟨z.gt, k * 8 + 7, none⟩ = some (.int .i64 st) ∧ w1.cell? ⟨u.heap.size, 1, none⟩ = some (.int .i64 way) := ⟨d0, d1, d2, d3, d4, d5, d6, d7, w1way⟩
    go_region_held3 (fun w' => w'.cell? ⟨z.gt, k * 8, none⟩ = some (.int .i64 n) ∧ w'.cell? ⟨z.gt, k * 8 + 1, none⟩ = some (.int .i64 b) ∧ w'.cell? ⟨z.gt, k * 8 + 2, none⟩ = some (.int .i64 s) ∧ w'.cell? ⟨z.gt, k * 8 + 3, none⟩ = some (.int .i64 p) ∧ w'.cell? ⟨z.gt, k * 8 + 4, none⟩ = some (.int .i64 q) ∧ w'.cell? ⟨z.gt, k * 8 + 5, none⟩ = some (.int .i64 c) ∧ w'.cell? ⟨z.gt, k * 8 + 6, none⟩ = some (.int .i64 r) ∧ w'.cell? ⟨z.gt, k * 8 + 7, none⟩ = some (.int .i64 st) ∧ w'.cell? ⟨u.heap.size, 1, none⟩ = some (.int .i64 way)) (first | exact K4 | exact K5)
      (first | (go_at_call 103; refine (ISet.iSettle w1.drew z base g n b s p q c r st way (unhide TO) (unhide LI) (unhide SM) (unhide D1).v (unhide D1).o hg).mono ?_; rintro e u2 ⟨b3, ga, c', hs, rfl, hz, gr⟩; have n1 : some z.gt ≠ some g := (fun e => (by injection e; omega)); have n2 : some u.heap.size ≠ some g := (fun e => (by injection e; omega)); have K5 : u2.cell? ⟨z.gt, k * 8, none⟩ = some (.int .i64 n) ∧ u2.cell? ⟨z.gt, k * 8 + 1, none⟩ = some (.int .i64 b) ∧ u2.cell? ⟨z.gt, k * 8 + 2, none⟩ = some (.int .i64 s) ∧ u2.cell? ⟨z.gt, k * 8 + 3, none⟩ = some (.int .i64 p) ∧ u2.cell? ⟨z.gt, k * 8 + 4, none⟩ = some (.int .i64 q) ∧ u2.cell? ⟨z.gt, k * 8 + 5, none⟩ = some (.int .i64 c) ∧ u2.cell? ⟨z.gt, k * 8 + 6, none⟩ = some (.int .i64 r) ∧ u2.cell? ⟨z.gt, k * 8 + 7, none⟩ = some (.int .i64 st) ∧ u2.cell? ⟨u.heap.size, 1, none⟩ = some (.int .i64 way) := ⟨gr.cell d0 n1, gr.cell d1 n1, gr.cell d2 n1, gr.cell d3 n1, gr.cell d4 n1, gr.cell d5 n1, gr.cell d6 n1, gr.cell d7 n1, gr.cell w1way n2⟩; have e7 : u2.cell? ⟨z.gt, k * 8 + 7, none⟩ = some (.int .i64 st) := gr.cell d7 n1; have HS := hide hs; have HZ := hide hz; have FR := hide ((Frm.below (g := g) (unhide D1).b bu).trans (Frm.grown gr (.inl rfl) (Nat.le_trans bu (unhide D1).b.size))); have bu2 := Nat.le_trans bu (Nat.le_trans (unhide D1).b.size gr.size); clear hs hz gr))
    clear K4 K5 d0 d1 d2 d3 d4 d5 d6 d7 w1way D0 D1
    by_cases zc : c' = 0
    · subst zc
      rcases unhide HZ with ⟨_, y, hy, vy, oy, ge, ce⟩ | ⟨hne, _⟩
      rotate_left
      · exact absurd rfl hne
      have e8 := oy.ot.free (k * 8 + 7)
      rw [ge] at e8
      have HY := hide hy
      have V1 := hide (show Var (u2.setCell ⟨z.gt, k * 8 + 7, none⟩ (.int .i64 2)) base g (withS y k 2) from by rw [← ge]; exact var_state vy oy hg k 2)
      have O1 := hide (show Ow (u2.setCell ⟨z.gt, k * 8 + 7, none⟩ (.int .i64 2)) (base + 4) (withS y k 2) from by rw [← ge]; exact ow_state oy k 2)
      have F1 := hide (show Frm u (u2.setCell ⟨z.gt, k * 8 + 7, none⟩ (.int .i64 2)) base g from (unhide FR).trans (by rw [← ge]; exact Frm.grown (state_grown oy k 2) (.inr oy.ot.lt.1) bu2))
      clear hy vy oy ge ce HZ
      go_wp2
      go_ret2
      exact ⟨_, ga, 0, .inr ⟨rfl, b3, ga, by rw [unhide HPT]; exact unhide HS, fun _ => ⟨rfl, rfl⟩, fun e => absurd rfl e⟩, rfl, .inl ⟨rfl, withS y k 2, by rw [← unhide HY], unhide V1, unhide O1⟩, unhide F1⟩
    · have zcb : (c' == 0) = false := eq_false zc
      have ZN := hide zc
      have AB := hide (show AnyBox u2 base g from by
        rcases unhide HZ with ⟨h, _⟩ | ⟨_, h⟩
        · exact absurd h zc
        · exact h)
      clear zc HZ
      go_wp2
      go_ret2
      exact ⟨z.b, ga, c', .inr ⟨rfl, b3, ga, by rw [unhide HPT]; exact unhide HS, fun e => absurd e (unhide ZN), fun _ => rfl⟩, rfl, .inr ⟨unhide ZN, unhide AB⟩, unhide FR⟩
set_option maxRecDepth 100000 in
theorem iEndEnded (u : World) (v1 v2 : Value) (kind way : Int) :
    Calls Tryz.prog 75 #[v1, v2, .agg #[.int .i64 kind, .int .i64 way]] u fun e u' => e = .returned (.tuple #[.int .i64 0, .int .i64 6]) ∧ Below u.heap.size u u' := by
  go_enter Tryz.func75, Tryz.ntmps75
  go_wp2
  go_ret2
  exact ⟨rfl, one_more _ _⟩
def EndP (b : Bk) (no kind way : Int) (b' : Bk) (t c : Int) : Prop :=
  (kind = 0 ∧ IsCancel b no b' c ∧ t = 0) ∨ (kind = 1 ∧ ∃ t', IsSettle b no way b' t' c ∧ (c = 0 → t = t'))
theorem end_none {b : Bk} {no kind way : Int} (kd : kind = 0 ∨ kind = 1) (h : NoneAt b.ts no) : EndP b no kind way b 0 3 := by
  rcases kd with rfl | rfl
  · exact .inl ⟨rfl, .inl ⟨h, rfl, rfl⟩, rfl⟩
  · exact .inr ⟨rfl, 0, .inl ⟨h, rfl, rfl, rfl⟩, fun _ => rfl⟩
theorem end_ended {b : Bk} {no kind way : Int} {k : Nat} (kd : kind = 0 ∨ kind = 1) (h : IsAt b.ts no k) (hs : (el8 b.ts k).2.2.2.2.2.2.2 ≠ 1) : EndP b no kind way b 0 6 := by
  rcases kd with rfl | rfl
  · exact .inl ⟨rfl, .inr ⟨k, h, .inl ⟨hs, rfl, rfl⟩⟩, rfl⟩
  · exact .inr ⟨rfl, 0, .inr ⟨k, h, .inl ⟨hs, rfl, rfl, rfl⟩⟩, fun _ => rfl⟩
theorem end_open {b b' : Bk} {no kind way t c : Int} {k : Nat} (h : IsAt b.ts no k) (hs : (el8 b.ts k).2.2.2.2.2.2.2 = 1) (o : OpenP b k kind way b' t c) : EndP b no kind way b' t c := by
  rcases o with ⟨rfl, rfl, rfl, rfl⟩ | ⟨rfl, b3, ga, hp, h1, h2⟩
  · exact .inl ⟨rfl, .inr ⟨k, h, .inr ⟨hs, rfl, rfl⟩⟩, rfl⟩
  · by_cases z : c = 0
    · subst z
      obtain ⟨rfl, rfl⟩ := h1 rfl
      exact .inr ⟨rfl, t, hp.done h hs, fun _ => rfl⟩
    · rw [h2 z]
      exact .inr ⟨rfl, 0, hp.not z h hs, fun e => absurd e z⟩
abbrev oE0 : Oper := { dst := some 29, op := Go.Op.move (Go.Operand.tmp 11), type := 115, pos := "l07_trade.go:102", after := #[], guard := none }
abbrev oE1 : Oper := { dst := some 30, op := Go.Op.nilCheck (Go.Operand.tmp 29), type := 0, pos := "l07_trade.go:102", after := #[{ on := 0, ground := Go.Ground.data }], guard := none }
abbrev oE2 : Oper := { dst := some 31, op := Go.Op.fieldAddr 57 (Go.Operand.tmp 30) 7, type := 0, pos := "l07_trade.go:102", after := #[{ on := 1, ground := Go.Ground.data }], guard := none }
abbrev oE3 : Oper := { dst := some 32, op := Go.Op.load 3 (Go.Operand.tmp 31), type := 3, pos := "l07_trade.go:102", after := #[{ on := 2, ground := Go.Ground.data }], guard := none }
abbrev oE4 : Oper := { dst := some 33, op := Go.Op.indexAddr 114 (Go.Operand.tmp 10) (Go.Operand.tmp 32), type := 0, pos := "l07_trade.go:102", after := #[{ on := 3, ground := Go.Ground.data }], guard := none }
abbrev oE5 : Oper := { dst := some 34, op := Go.Op.load 112 (Go.Operand.tmp 33), type := 112, pos := "l07_trade.go:102", after := #[{ on := 4, ground := Go.Ground.data }], guard := none }
abbrev oE6 : Oper := { dst := some 35, op := Go.Op.move (Go.Operand.tmp 0), type := 65, pos := "l07_trade.go:102", after := #[], guard := none }
abbrev oE7 : Oper := { dst := some 36, op := Go.Op.move (Go.Operand.tmp 11), type := 115, pos := "l07_trade.go:102", after := #[], guard := none }
abbrev oE8 : Oper := { dst := some 37, op := Go.Op.load 68 (Go.Operand.tmp 5), type := 68, pos := "l07_trade.go:102", after := #[], guard := none }
abbrev oE9 : Oper := { dst := some 38, op := Go.Op.call { callee := Go.Callee.value (Go.Operand.tmp 34), args := #[Go.Operand.tmp 35, Go.Operand.tmp 36, Go.Operand.tmp 37], argTypes := #[65, 115, 68] }, type := 54, pos := "l07_trade.go:102", after := #[{ on := 5, ground := Go.Ground.data }, { on := 6, ground := Go.Ground.data }, { on := 7, ground := Go.Ground.data }, { on := 8, ground := Go.Ground.data }], guard := none }
abbrev oE10 : Oper := { dst := some 39, op := Go.Op.extract (Go.Operand.tmp 38) 0, type := 3, pos := "l07_trade.go:102", after := #[{ on := 9, ground := Go.Ground.data }], guard := none }
abbrev oE11 : Oper := { dst := some 40, op := Go.Op.extract (Go.Operand.tmp 38) 1, type := 3, pos := "l07_trade.go:102", after := #[{ on := 9, ground := Go.Ground.data }], guard := none }
abbrev oE12 : Oper := { dst := some 6, op := Go.Op.assign (Go.Operand.tmp 39), type := 3, pos := "l07_trade.go:102", after := #[{ on := 10, ground := Go.Ground.data }, { on := 9, ground := Go.Ground.chain }, { on := 0, ground := Go.Ground.phase }, { on := 1, ground := Go.Ground.phase }, { on := 2, ground := Go.Ground.phase }, { on := 3, ground := Go.Ground.phase }, { on := 4, ground := Go.Ground.phase }, { on := 5, ground := Go.Ground.phase }, { on := 6, ground := Go.Ground.phase }, { on := 7, ground := Go.Ground.phase }, { on := 8, ground := Go.Ground.phase }, { on := 9, ground := Go.Ground.phase }, { on := 10, ground := Go.Ground.phase }, { on := 11, ground := Go.Ground.phase }], guard := none }
abbrev oE13 : Oper := { dst := some 7, op := Go.Op.assign (Go.Operand.tmp 40), type := 3, pos := "l07_trade.go:102", after := #[{ on := 11, ground := Go.Ground.data }, { on := 12, ground := Go.Ground.chain }, { on := 0, ground := Go.Ground.phase }, { on := 1, ground := Go.Ground.phase }, { on := 2, ground := Go.Ground.phase }, { on := 3, ground := Go.Ground.phase }, { on := 4, ground := Go.Ground.phase }, { on := 5, ground := Go.Ground.phase }, { on := 6, ground := Go.Ground.phase }, { on := 7, ground := Go.Ground.phase }, { on := 8, ground := Go.Ground.phase }, { on := 9, ground := Go.Ground.phase }, { on := 10, ground := Go.Ground.phase }, { on := 11, ground := Go.Ground.phase }, { on := 12, ground := Go.Ground.phase }], guard := none }
set_option maxRecDepth 100000 in
set_option maxHeartbeats 8000000 in
theorem iEndTrade (u : World) (z : Bx) (base g : Nat) (no kind way : Int) (ok : Ok z.b) (kd : kind = 0 ∨ kind = 1) (V : Var u base g z) (O : Ow u (base + 4) z) (hg : g < base + 4) :
    Calls Tryz.prog 31 #[.pointer (some ⟨g, 0, none⟩), .int .i64 no, .agg #[.int .i64 kind, .int .i64 way]] u (DoesW (EndP z.b no kind way) base g u) := by
  have OK := hide ok
  have KD := hide kd
  have AS := hide (asc ok.1.2.2.2.2.1)
  have D0 := hide ((DW.start V O (ok_small ok)).step (one_more u (.cells #[.int .i64 kind, .int .i64 way] 68)))
  have bu : base + 4 ≤ u.heap.size := by have := O.oa.lt; omega
  have gl := (Box.lt V).2
  have nt := (unhide D0).r.nt
  have d0 := (unhide D0).v.c0
  have d1 := (unhide D0).v.c1
  have d2 := (unhide D0).v.c2
  have d3 := (unhide D0).v.c3
  have d4 := (unhide D0).v.c4
  have d5 := (unhide D0).v.c5
  have z0 : u.heap.size < (u.alloc (.cells #[.int .i64 kind, .int .i64 way] 68)).heap.size := by simp
  have b0 : (u.alloc (.cells #[.int .i64 kind, .int .i64 way] 68)).cell? ⟨u.heap.size, 0, none⟩ = some (.int .i64 kind) := by simp
  have b1 : (u.alloc (.cells #[.int .i64 kind, .int .i64 way] 68)).cell? ⟨u.heap.size, 1, none⟩ = some (.int .i64 way) := by simp
  clear ok V O kd
  go_enter Tryz.func31, Tryz.ntmps31
  go_wp2_with fail
  generalize u.alloc (.cells #[.int .i64 kind, .int .i64 way] 68) = w1 at *
  refine (iPlace _ z no (unhide D0).r AS).mono ?_
  rintro e w2 ⟨k, f, hc, hf, rfl, bb⟩
  have D2 := hide ((unhide D0).step bb)
  have c0 := (bb.cell (p := ⟨u.heap.size, 0, none⟩) z0).trans b0
  have c1 := (bb.cell (p := ⟨u.heap.size, 1, none⟩) z0).trans b1
  have z2 := Nat.lt_of_lt_of_le z0 bb.size
  clear bb d0 d1 d2 d3 d4 d5 b0 b1 z0
  cases f
  · have EN := hide (end_none (way := way) (unhide KD) (place_none hc hf (unhide AS)))
    clear hc hf
    go_wp2
    go_ret2
    exact ⟨z.b, 0, 3, unhide EN, rfl, .inr ⟨by omega, Var.any (unhide D2).v⟩, Frm.below (unhide D2).b bu⟩
  have HK := hide (place_at hc hf)
  have hk : k < z.b.ts.length := (place_at hc hf).1
  have STT := hide ((unhide OK).1.2.2.2.2.1.2 k hk).1.2.2.2.2.2.2.2.2
  clear hc hf
  have d4 := (unhide D2).v.c4
  have d7 := ((unhide D2).o.ot.at k hk).2.2.2.2.2.2.2
  obtain ⟨st, hst⟩ : ∃ st, (el8 z.b.ts k).2.2.2.2.2.2.2 = st := ⟨_, rfl⟩
  rw [hst] at d7
  have STE : st = 1 ∨ st = 2 ∨ st = 3 := by
    have := unhide STT
    rw [hst] at this
    omega
  have HST := hide hst
  clear hst STT
  have sn : ∀ (w : World) (a : Addr) (m), (store a .nilFunc m).run Tryz.prog w = stored Tryz.prog w a .nilFunc m := fun w a m => run_store Tryz.prog w a _ m rfl
  have sf : ∀ (w : World) (a : Addr) (fn : Fn) (x y : Array Value) (m), (store a (.func fn x y) m).run Tryz.prog w = stored Tryz.prog w a (.func fn x y) m := fun w a fn x y m => run_store Tryz.prog w a _ m rfl
  have g2 : g < w2.heap.size := Nat.lt_of_lt_of_le gl (unhide D2).b.size
  have t2 : z.gt < w2.heap.size := (unhide D2).o.ot.lt.2
  go_wp2_with fail
  refine SSettle.to_wc (fun W => DW u W z base g ∧ W.cell? ⟨u.heap.size, 0, none⟩ = some (.int .i64 kind) ∧ W.cell? ⟨u.heap.size, 1, none⟩ = some (.int .i64 way) ∧ W.cell? ⟨w2.heap.size, 1, none⟩ = some (.func (.func 74) #[] #[]) ∧ W.cell? ⟨w2.heap.size, 2, none⟩ = some (.func (.func 75) #[] #[]) ∧ W.cell? ⟨w2.heap.size, 3, none⟩ = some (.func (.func 75) #[] #[])) ⟨(unhide D2).step (one_more w2 _), (World.cell?_alloc_past _ _ _ z2).trans c0, (World.cell?_alloc_past _ _ _ z2).trans c1, by simp, by simp, by simp⟩ ?_
  rintro w3 ⟨D3', e0, e1, p1, p2, p3⟩
  have D3 := hide D3'
  clear D3' d4 d7 c0 c1 sn sf g2 t2
  have D3d := hide ((unhide D3).drew)
  have d7 := ((unhide D3).o.ot.at k hk).2.2.2.2.2.2.2
  rw [unhide HST] at d7
  rcases STE with rfl | rfl | rfl
  · refine wp_region_held_drew (S := (fun _ => True)) (by kernel_rfl) trivial (fun hHeld => ?_)
    refine wpAnyH_take (i := 0) (oi := oE0) (v := .pointer (some ⟨z.gt, k * 8, none⟩)) rfl (by kernel_rfl) (by kernel_rfl) (by kernel_rfl) (fun _ _ _ h => h) (Or.inl ⟨by rfl, fun w hSw => ?_⟩) hHeld ?_
    · (try dsimp only at hSw)
      unfold oE0
      go_simp
    try simp only [oE0, Act.put, List.setIfInBounds_toArray, List.set_cons_zero, List.set_cons_succ]
    refine wpAnyH_take (i := 1) (oi := oE1) (v := .pointer (some ⟨z.gt, k * 8, none⟩)) rfl (by kernel_rfl) (by kernel_rfl) (by kernel_rfl) (fun _ _ _ h => h) (Or.inl ⟨by rfl, fun w hSw => ?_⟩) hHeld ?_
    · (try dsimp only at hSw)
      unfold oE1
      go_simp
    try simp only [oE1, Act.put, List.setIfInBounds_toArray, List.set_cons_zero, List.set_cons_succ]
    refine wpAnyH_take (i := 2) (oi := oE2) (v := .pointer (some ⟨z.gt, k * 8 + 7, none⟩)) rfl (by kernel_rfl) (by kernel_rfl) (by kernel_rfl) (fun _ _ _ h => h) (Or.inl ⟨by rfl, fun w hSw => ?_⟩) hHeld ?_
    · (try dsimp only at hSw)
      unfold oE2
      go_simp
    try simp only [oE2, Act.put, List.setIfInBounds_toArray, List.set_cons_zero, List.set_cons_succ]
    refine wpAnyH_take (i := 6) (oi := oE6) (v := .pointer (some ⟨g, 0, none⟩)) rfl (by kernel_rfl) (by kernel_rfl) (by kernel_rfl) (fun _ _ _ h => h) (Or.inl ⟨by rfl, fun w hSw => ?_⟩) hHeld ?_
    · (try dsimp only at hSw)
      unfold oE6
      go_simp
    try simp only [oE6, Act.put, List.setIfInBounds_toArray, List.set_cons_zero, List.set_cons_succ]
    refine wpAnyH_take (i := 7) (oi := oE7) (v := .pointer (some ⟨z.gt, k * 8, none⟩)) rfl (by kernel_rfl) (by kernel_rfl) (by kernel_rfl) (fun _ _ _ h => h) (Or.inl ⟨by rfl, fun w hSw => ?_⟩) hHeld ?_
    · (try dsimp only at hSw)
      unfold oE7
      go_simp
    try simp only [oE7, Act.put, List.setIfInBounds_toArray, List.set_cons_zero, List.set_cons_succ]
    refine wpAnyH_ready (rs := [3, 8]) (by kernel_rfl) (by simp) ?_
    refine AllReadyH.cons (o := oE3) rfl (fun K hK => ?_) (AllReadyH.cons (o := oE8) rfl (fun K hK => ?_) AllReadyH.nil)
    · unfold oE3
      go_simp
      refine hK.out _ _ trivial (fun hHeld => ?_)
      clear hK K
      try simp only [oE3, Act.put, List.setIfInBounds_toArray, List.set_cons_zero, List.set_cons_succ]
      refine wpAnyH_take (i := 4) (oi := oE4) (v := .pointer (some ⟨w2.heap.size, 1, none⟩)) rfl (by kernel_rfl) (by kernel_rfl) (by kernel_rfl) (fun _ _ _ h => h) (Or.inl ⟨by rfl, fun w hSw => ?_⟩) hHeld ?_
      · (try dsimp only at hSw)
        unfold oE4
        go_simp
      try simp only [oE4, Act.put, List.setIfInBounds_toArray, List.set_cons_zero, List.set_cons_succ]
      refine wpAnyH_ready (rs := [5, 8]) (by kernel_rfl) (by simp) ?_
      refine AllReadyH.cons (o := oE5) rfl (fun K hK => ?_) (AllReadyH.cons (o := oE8) rfl (fun K hK => ?_) AllReadyH.nil)
      · unfold oE5
        go_simp
        refine hK.out _ _ trivial (fun hHeld => ?_)
        clear hK K
        try simp only [oE5, Act.put, List.setIfInBounds_toArray, List.set_cons_zero, List.set_cons_succ]
        refine wpAnyH_ready (rs := [8]) (by kernel_rfl) (by simp) ?_
        refine AllReadyH.cons (o := oE8) rfl (fun K hK => ?_) AllReadyH.nil
        unfold oE8
        go_simp
        refine hK.out _ _ trivial (fun hHeld => ?_)
        clear hK K
        try simp only [oE8, Act.put, List.setIfInBounds_toArray, List.set_cons_zero, List.set_cons_succ]
        refine wpAnyH_ready (rs := [9]) (by kernel_rfl) (by simp) ?_
        refine AllReadyH.cons (o := oE9) rfl (fun K hK => ?_) AllReadyH.nil
        unfold oE9
        go_simp
        refine (iEndOpen w3.drew z base g k kind way (unhide OK) hk (unhide KD) (unhide D3d).v (unhide D3d).o hg).mono ?_
        rintro e u4 ⟨b', t, c, hp, rfl, hz, fr⟩
        have HP := hide (end_open (unhide HK) (unhide HST) hp)
        have HZ := hide hz
        have FR := hide ((Frm.below (g := g) (unhide D3d).b bu).trans fr)
        clear hp hz fr
        go_wp2_with fail
        refine hK.out _ _ trivial (fun hHeld => ?_)
        clear hK K
        try simp only [oE9, Act.put, List.setIfInBounds_toArray, List.set_cons_zero, List.set_cons_succ]
        refine wpAnyH_take (i := 10) (oi := oE10) (v := .int .i64 t) rfl (by kernel_rfl) (by kernel_rfl) (by kernel_rfl) (fun _ _ _ h => h) (Or.inl ⟨by rfl, fun w hSw => ?_⟩) hHeld ?_
        · (try dsimp only at hSw)
          unfold oE10
          go_simp
        try simp only [oE10, Act.put, List.setIfInBounds_toArray, List.set_cons_zero, List.set_cons_succ]
        refine wpAnyH_take (i := 11) (oi := oE11) (v := .int .i64 c) rfl (by kernel_rfl) (by kernel_rfl) (by kernel_rfl) (fun _ _ _ h => h) (Or.inl ⟨by rfl, fun w hSw => ?_⟩) hHeld ?_
        · (try dsimp only at hSw)
          unfold oE11
          go_simp
        try simp only [oE11, Act.put, List.setIfInBounds_toArray, List.set_cons_zero, List.set_cons_succ]
        refine wpAnyH_take (i := 12) (oi := oE12) (v := .int .i64 t) rfl (by kernel_rfl) (by kernel_rfl) (by kernel_rfl) (fun _ _ _ h => h) (Or.inl ⟨by rfl, fun w hSw => ?_⟩) hHeld ?_
        · (try dsimp only at hSw)
          unfold oE12
          go_simp
        try simp only [oE12, Act.put, List.setIfInBounds_toArray, List.set_cons_zero, List.set_cons_succ]
        refine wpAnyH_take (i := 13) (oi := oE13) (v := .int .i64 c) rfl (by kernel_rfl) (by kernel_rfl) (by kernel_rfl) (fun _ _ _ h => h) (Or.inl ⟨by rfl, fun w hSw => ?_⟩) hHeld ?_
        · (try dsimp only at hSw)
          unfold oE13
          go_simp
        try simp only [oE13, Act.put, List.setIfInBounds_toArray, List.set_cons_zero, List.set_cons_succ]
        refine wpAnyH_done (by kernel_rfl) ?_ _
        go_wp2
        go_ret2
        exact ⟨b', t, c, unhide HP, rfl, unhide HZ, unhide FR⟩
      · unfold oE8
        go_simp
        refine hK.out _ _ trivial (fun hHeld => ?_)
        clear hK K
        try simp only [oE8, Act.put, List.setIfInBounds_toArray, List.set_cons_zero, List.set_cons_succ]
        refine wpAnyH_ready (rs := [5]) (by kernel_rfl) (by simp) ?_
        refine AllReadyH.cons (o := oE5) rfl (fun K hK => ?_) AllReadyH.nil
        unfold oE5
        go_simp
        refine hK.out _ _ trivial (fun hHeld => ?_)
        clear hK K
        try simp only [oE5, Act.put, List.setIfInBounds_toArray, List.set_cons_zero, List.set_cons_succ]
        refine wpAnyH_ready (rs := [9]) (by kernel_rfl) (by simp) ?_
        refine AllReadyH.cons (o := oE9) rfl (fun K hK => ?_) AllReadyH.nil
        unfold oE9
        go_simp
        refine (iEndOpen w3.drew z base g k kind way (unhide OK) hk (unhide KD) (unhide D3d).v (unhide D3d).o hg).mono ?_
        rintro e u4 ⟨b', t, c, hp, rfl, hz, fr⟩
        have HP := hide (end_open (unhide HK) (unhide HST) hp)
        have HZ := hide hz
        have FR := hide ((Frm.below (g := g) (unhide D3d).b bu).trans fr)
        clear hp hz fr
        go_wp2_with fail
        refine hK.out _ _ trivial (fun hHeld => ?_)
        clear hK K
        try simp only [oE9, Act.put, List.setIfInBounds_toArray, List.set_cons_zero, List.set_cons_succ]
        refine wpAnyH_take (i := 10) (oi := oE10) (v := .int .i64 t) rfl (by kernel_rfl) (by kernel_rfl) (by kernel_rfl) (fun _ _ _ h => h) (Or.inl ⟨by rfl, fun w hSw => ?_⟩) hHeld ?_
        · (try dsimp only at hSw)
          unfold oE10
          go_simp
        try simp only [oE10, Act.put, List.setIfInBounds_toArray, List.set_cons_zero, List.set_cons_succ]
        refine wpAnyH_take (i := 11) (oi := oE11) (v := .int .i64 c) rfl (by kernel_rfl) (by kernel_rfl) (by kernel_rfl) (fun _ _ _ h => h) (Or.inl ⟨by rfl, fun w hSw => ?_⟩) hHeld ?_
        · (try dsimp only at hSw)
          unfold oE11
          go_simp
        try simp only [oE11, Act.put, List.setIfInBounds_toArray, List.set_cons_zero, List.set_cons_succ]
        refine wpAnyH_take (i := 12) (oi := oE12) (v := .int .i64 t) rfl (by kernel_rfl) (by kernel_rfl) (by kernel_rfl) (fun _ _ _ h => h) (Or.inl ⟨by rfl, fun w hSw => ?_⟩) hHeld ?_
        · (try dsimp only at hSw)
          unfold oE12
          go_simp
        try simp only [oE12, Act.put, List.setIfInBounds_toArray, List.set_cons_zero, List.set_cons_succ]
        refine wpAnyH_take (i := 13) (oi := oE13) (v := .int .i64 c) rfl (by kernel_rfl) (by kernel_rfl) (by kernel_rfl) (fun _ _ _ h => h) (Or.inl ⟨by rfl, fun w hSw => ?_⟩) hHeld ?_
        · (try dsimp only at hSw)
          unfold oE13
          go_simp
        try simp only [oE13, Act.put, List.setIfInBounds_toArray, List.set_cons_zero, List.set_cons_succ]
        refine wpAnyH_done (by kernel_rfl) ?_ _
        go_wp2
        go_ret2
        exact ⟨b', t, c, unhide HP, rfl, unhide HZ, unhide FR⟩
    · unfold oE8
      go_simp
      refine hK.out _ _ trivial (fun hHeld => ?_)
      clear hK K
      try simp only [oE8, Act.put, List.setIfInBounds_toArray, List.set_cons_zero, List.set_cons_succ]
      refine wpAnyH_ready (rs := [3]) (by kernel_rfl) (by simp) ?_
      refine AllReadyH.cons (o := oE3) rfl (fun K hK => ?_) AllReadyH.nil
      unfold oE3
      go_simp
      refine hK.out _ _ trivial (fun hHeld => ?_)
      clear hK K
      try simp only [oE3, Act.put, List.setIfInBounds_toArray, List.set_cons_zero, List.set_cons_succ]
      refine wpAnyH_take (i := 4) (oi := oE4) (v := .pointer (some ⟨w2.heap.size, 1, none⟩)) rfl (by kernel_rfl) (by kernel_rfl) (by kernel_rfl) (fun _ _ _ h => h) (Or.inl ⟨by rfl, fun w hSw => ?_⟩) hHeld ?_
      · (try dsimp only at hSw)
        unfold oE4
        go_simp
      try simp only [oE4, Act.put, List.setIfInBounds_toArray, List.set_cons_zero, List.set_cons_succ]
      refine wpAnyH_ready (rs := [5]) (by kernel_rfl) (by simp) ?_
      refine AllReadyH.cons (o := oE5) rfl (fun K hK => ?_) AllReadyH.nil
      unfold oE5
      go_simp
      refine hK.out _ _ trivial (fun hHeld => ?_)
      clear hK K
      try simp only [oE5, Act.put, List.setIfInBounds_toArray, List.set_cons_zero, List.set_cons_succ]
      refine wpAnyH_ready (rs := [9]) (by kernel_rfl) (by simp) ?_
      refine AllReadyH.cons (o := oE9) rfl (fun K hK => ?_) AllReadyH.nil
      unfold oE9
      go_simp
      refine (iEndOpen w3.drew z base g k kind way (unhide OK) hk (unhide KD) (unhide D3d).v (unhide D3d).o hg).mono ?_
      rintro e u4 ⟨b', t, c, hp, rfl, hz, fr⟩
      have HP := hide (end_open (unhide HK) (unhide HST) hp)
      have HZ := hide hz
      have FR := hide ((Frm.below (g := g) (unhide D3d).b bu).trans fr)
      clear hp hz fr
      go_wp2_with fail
      refine hK.out _ _ trivial (fun hHeld => ?_)
      clear hK K
      try simp only [oE9, Act.put, List.setIfInBounds_toArray, List.set_cons_zero, List.set_cons_succ]
      refine wpAnyH_take (i := 10) (oi := oE10) (v := .int .i64 t) rfl (by kernel_rfl) (by kernel_rfl) (by kernel_rfl) (fun _ _ _ h => h) (Or.inl ⟨by rfl, fun w hSw => ?_⟩) hHeld ?_
      · (try dsimp only at hSw)
        unfold oE10
        go_simp
      try simp only [oE10, Act.put, List.setIfInBounds_toArray, List.set_cons_zero, List.set_cons_succ]
      refine wpAnyH_take (i := 11) (oi := oE11) (v := .int .i64 c) rfl (by kernel_rfl) (by kernel_rfl) (by kernel_rfl) (fun _ _ _ h => h) (Or.inl ⟨by rfl, fun w hSw => ?_⟩) hHeld ?_
      · (try dsimp only at hSw)
        unfold oE11
        go_simp
      try simp only [oE11, Act.put, List.setIfInBounds_toArray, List.set_cons_zero, List.set_cons_succ]
      refine wpAnyH_take (i := 12) (oi := oE12) (v := .int .i64 t) rfl (by kernel_rfl) (by kernel_rfl) (by kernel_rfl) (fun _ _ _ h => h) (Or.inl ⟨by rfl, fun w hSw => ?_⟩) hHeld ?_
      · (try dsimp only at hSw)
        unfold oE12
        go_simp
      try simp only [oE12, Act.put, List.setIfInBounds_toArray, List.set_cons_zero, List.set_cons_succ]
      refine wpAnyH_take (i := 13) (oi := oE13) (v := .int .i64 c) rfl (by kernel_rfl) (by kernel_rfl) (by kernel_rfl) (fun _ _ _ h => h) (Or.inl ⟨by rfl, fun w hSw => ?_⟩) hHeld ?_
      · (try dsimp only at hSw)
        unfold oE13
        go_simp
      try simp only [oE13, Act.put, List.setIfInBounds_toArray, List.set_cons_zero, List.set_cons_succ]
      refine wpAnyH_done (by kernel_rfl) ?_ _
      go_wp2
      go_ret2
      exact ⟨b', t, c, unhide HP, rfl, unhide HZ, unhide FR⟩
  · have EE := hide (end_ended (way := way) (unhide KD) (unhide HK) (by rw [unhide HST]; decide))
    refine wp_region_held_drew (S := (fun _ => True)) (by kernel_rfl) trivial (fun hHeld => ?_)
    refine wpAnyH_take (i := 0) (oi := oE0) (v := .pointer (some ⟨z.gt, k * 8, none⟩)) rfl (by kernel_rfl) (by kernel_rfl) (by kernel_rfl) (fun _ _ _ h => h) (Or.inl ⟨by rfl, fun w hSw => ?_⟩) hHeld ?_
    · (try dsimp only at hSw)
      unfold oE0
      go_simp
    try simp only [oE0, Act.put, List.setIfInBounds_toArray, List.set_cons_zero, List.set_cons_succ]
    refine wpAnyH_take (i := 1) (oi := oE1) (v := .pointer (some ⟨z.gt, k * 8, none⟩)) rfl (by kernel_rfl) (by kernel_rfl) (by kernel_rfl) (fun _ _ _ h => h) (Or.inl ⟨by rfl, fun w hSw => ?_⟩) hHeld ?_
    · (try dsimp only at hSw)
      unfold oE1
      go_simp
    try simp only [oE1, Act.put, List.setIfInBounds_toArray, List.set_cons_zero, List.set_cons_succ]
    refine wpAnyH_take (i := 2) (oi := oE2) (v := .pointer (some ⟨z.gt, k * 8 + 7, none⟩)) rfl (by kernel_rfl) (by kernel_rfl) (by kernel_rfl) (fun _ _ _ h => h) (Or.inl ⟨by rfl, fun w hSw => ?_⟩) hHeld ?_
    · (try dsimp only at hSw)
      unfold oE2
      go_simp
    try simp only [oE2, Act.put, List.setIfInBounds_toArray, List.set_cons_zero, List.set_cons_succ]
    refine wpAnyH_take (i := 6) (oi := oE6) (v := .pointer (some ⟨g, 0, none⟩)) rfl (by kernel_rfl) (by kernel_rfl) (by kernel_rfl) (fun _ _ _ h => h) (Or.inl ⟨by rfl, fun w hSw => ?_⟩) hHeld ?_
    · (try dsimp only at hSw)
      unfold oE6
      go_simp
    try simp only [oE6, Act.put, List.setIfInBounds_toArray, List.set_cons_zero, List.set_cons_succ]
    refine wpAnyH_take (i := 7) (oi := oE7) (v := .pointer (some ⟨z.gt, k * 8, none⟩)) rfl (by kernel_rfl) (by kernel_rfl) (by kernel_rfl) (fun _ _ _ h => h) (Or.inl ⟨by rfl, fun w hSw => ?_⟩) hHeld ?_
    · (try dsimp only at hSw)
      unfold oE7
      go_simp
    try simp only [oE7, Act.put, List.setIfInBounds_toArray, List.set_cons_zero, List.set_cons_succ]
    refine wpAnyH_ready (rs := [3, 8]) (by kernel_rfl) (by simp) ?_
    refine AllReadyH.cons (o := oE3) rfl (fun K hK => ?_) (AllReadyH.cons (o := oE8) rfl (fun K hK => ?_) AllReadyH.nil)
    · unfold oE3
      go_simp
      refine hK.out _ _ trivial (fun hHeld => ?_)
      clear hK K
      try simp only [oE3, Act.put, List.setIfInBounds_toArray, List.set_cons_zero, List.set_cons_succ]
      refine wpAnyH_take (i := 4) (oi := oE4) (v := .pointer (some ⟨w2.heap.size, 2, none⟩)) rfl (by kernel_rfl) (by kernel_rfl) (by kernel_rfl) (fun _ _ _ h => h) (Or.inl ⟨by rfl, fun w hSw => ?_⟩) hHeld ?_
      · (try dsimp only at hSw)
        unfold oE4
        go_simp
      try simp only [oE4, Act.put, List.setIfInBounds_toArray, List.set_cons_zero, List.set_cons_succ]
      refine wpAnyH_ready (rs := [5, 8]) (by kernel_rfl) (by simp) ?_
      refine AllReadyH.cons (o := oE5) rfl (fun K hK => ?_) (AllReadyH.cons (o := oE8) rfl (fun K hK => ?_) AllReadyH.nil)
      · unfold oE5
        go_simp
        refine hK.out _ _ trivial (fun hHeld => ?_)
        clear hK K
        try simp only [oE5, Act.put, List.setIfInBounds_toArray, List.set_cons_zero, List.set_cons_succ]
        refine wpAnyH_ready (rs := [8]) (by kernel_rfl) (by simp) ?_
        refine AllReadyH.cons (o := oE8) rfl (fun K hK => ?_) AllReadyH.nil
        unfold oE8
        go_simp
        refine hK.out _ _ trivial (fun hHeld => ?_)
        clear hK K
        try simp only [oE8, Act.put, List.setIfInBounds_toArray, List.set_cons_zero, List.set_cons_succ]
        refine wpAnyH_ready (rs := [9]) (by kernel_rfl) (by simp) ?_
        refine AllReadyH.cons (o := oE9) rfl (fun K hK => ?_) AllReadyH.nil
        unfold oE9
        go_simp
        refine (iEndEnded w3.drew _ _ kind way).mono ?_
        rintro e u4 ⟨rfl, bb⟩
        have D4 := hide ((unhide D3d).step bb)
        clear bb
        go_wp2_with fail
        refine hK.out _ _ trivial (fun hHeld => ?_)
        clear hK K
        try simp only [oE9, Act.put, List.setIfInBounds_toArray, List.set_cons_zero, List.set_cons_succ]
        refine wpAnyH_take (i := 10) (oi := oE10) (v := .int .i64 0) rfl (by kernel_rfl) (by kernel_rfl) (by kernel_rfl) (fun _ _ _ h => h) (Or.inl ⟨by rfl, fun w hSw => ?_⟩) hHeld ?_
        · (try dsimp only at hSw)
          unfold oE10
          go_simp
        try simp only [oE10, Act.put, List.setIfInBounds_toArray, List.set_cons_zero, List.set_cons_succ]
        refine wpAnyH_take (i := 11) (oi := oE11) (v := .int .i64 6) rfl (by kernel_rfl) (by kernel_rfl) (by kernel_rfl) (fun _ _ _ h => h) (Or.inl ⟨by rfl, fun w hSw => ?_⟩) hHeld ?_
        · (try dsimp only at hSw)
          unfold oE11
          go_simp
        try simp only [oE11, Act.put, List.setIfInBounds_toArray, List.set_cons_zero, List.set_cons_succ]
        refine wpAnyH_take (i := 12) (oi := oE12) (v := .int .i64 0) rfl (by kernel_rfl) (by kernel_rfl) (by kernel_rfl) (fun _ _ _ h => h) (Or.inl ⟨by rfl, fun w hSw => ?_⟩) hHeld ?_
        · (try dsimp only at hSw)
          unfold oE12
          go_simp
        try simp only [oE12, Act.put, List.setIfInBounds_toArray, List.set_cons_zero, List.set_cons_succ]
        refine wpAnyH_take (i := 13) (oi := oE13) (v := .int .i64 6) rfl (by kernel_rfl) (by kernel_rfl) (by kernel_rfl) (fun _ _ _ h => h) (Or.inl ⟨by rfl, fun w hSw => ?_⟩) hHeld ?_
        · (try dsimp only at hSw)
          unfold oE13
          go_simp
        try simp only [oE13, Act.put, List.setIfInBounds_toArray, List.set_cons_zero, List.set_cons_succ]
        refine wpAnyH_done (by kernel_rfl) ?_ _
        go_wp2
        go_ret2
        exact ⟨z.b, 0, 6, unhide EE, rfl, .inr ⟨by omega, Var.any (unhide D4).v⟩, Frm.below (unhide D4).b bu⟩
      · unfold oE8
        go_simp
        refine hK.out _ _ trivial (fun hHeld => ?_)
        clear hK K
        try simp only [oE8, Act.put, List.setIfInBounds_toArray, List.set_cons_zero, List.set_cons_succ]
        refine wpAnyH_ready (rs := [5]) (by kernel_rfl) (by simp) ?_
        refine AllReadyH.cons (o := oE5) rfl (fun K hK => ?_) AllReadyH.nil
        unfold oE5
        go_simp
        refine hK.out _ _ trivial (fun hHeld => ?_)
        clear hK K
        try simp only [oE5, Act.put, List.setIfInBounds_toArray, List.set_cons_zero, List.set_cons_succ]
        refine wpAnyH_ready (rs := [9]) (by kernel_rfl) (by simp) ?_
        refine AllReadyH.cons (o := oE9) rfl (fun K hK => ?_) AllReadyH.nil
        unfold oE9
        go_simp
        refine (iEndEnded w3.drew _ _ kind way).mono ?_
        rintro e u4 ⟨rfl, bb⟩
        have D4 := hide ((unhide D3d).step bb)
        clear bb
        go_wp2_with fail
        refine hK.out _ _ trivial (fun hHeld => ?_)
        clear hK K
        try simp only [oE9, Act.put, List.setIfInBounds_toArray, List.set_cons_zero, List.set_cons_succ]
        refine wpAnyH_take (i := 10) (oi := oE10) (v := .int .i64 0) rfl (by kernel_rfl) (by kernel_rfl) (by kernel_rfl) (fun _ _ _ h => h) (Or.inl ⟨by rfl, fun w hSw => ?_⟩) hHeld ?_
        · (try dsimp only at hSw)
          unfold oE10
          go_simp
        try simp only [oE10, Act.put, List.setIfInBounds_toArray, List.set_cons_zero, List.set_cons_succ]
        refine wpAnyH_take (i := 11) (oi := oE11) (v := .int .i64 6) rfl (by kernel_rfl) (by kernel_rfl) (by kernel_rfl) (fun _ _ _ h => h) (Or.inl ⟨by rfl, fun w hSw => ?_⟩) hHeld ?_
        · (try dsimp only at hSw)
          unfold oE11
          go_simp
        try simp only [oE11, Act.put, List.setIfInBounds_toArray, List.set_cons_zero, List.set_cons_succ]
        refine wpAnyH_take (i := 12) (oi := oE12) (v := .int .i64 0) rfl (by kernel_rfl) (by kernel_rfl) (by kernel_rfl) (fun _ _ _ h => h) (Or.inl ⟨by rfl, fun w hSw => ?_⟩) hHeld ?_
        · (try dsimp only at hSw)
          unfold oE12
          go_simp
        try simp only [oE12, Act.put, List.setIfInBounds_toArray, List.set_cons_zero, List.set_cons_succ]
        refine wpAnyH_take (i := 13) (oi := oE13) (v := .int .i64 6) rfl (by kernel_rfl) (by kernel_rfl) (by kernel_rfl) (fun _ _ _ h => h) (Or.inl ⟨by rfl, fun w hSw => ?_⟩) hHeld ?_
        · (try dsimp only at hSw)
          unfold oE13
          go_simp
        try simp only [oE13, Act.put, List.setIfInBounds_toArray, List.set_cons_zero, List.set_cons_succ]
        refine wpAnyH_done (by kernel_rfl) ?_ _
        go_wp2
        go_ret2
        exact ⟨z.b, 0, 6, unhide EE, rfl, .inr ⟨by omega, Var.any (unhide D4).v⟩, Frm.below (unhide D4).b bu⟩
    · unfold oE8
      go_simp
      refine hK.out _ _ trivial (fun hHeld => ?_)
      clear hK K
      try simp only [oE8, Act.put, List.setIfInBounds_toArray, List.set_cons_zero, List.set_cons_succ]
      refine wpAnyH_ready (rs := [3]) (by kernel_rfl) (by simp) ?_
      refine AllReadyH.cons (o := oE3) rfl (fun K hK => ?_) AllReadyH.nil
      unfold oE3
      go_simp
      refine hK.out _ _ trivial (fun hHeld => ?_)
      clear hK K
      try simp only [oE3, Act.put, List.setIfInBounds_toArray, List.set_cons_zero, List.set_cons_succ]
      refine wpAnyH_take (i := 4) (oi := oE4) (v := .pointer (some ⟨w2.heap.size, 2, none⟩)) rfl (by kernel_rfl) (by kernel_rfl) (by kernel_rfl) (fun _ _ _ h => h) (Or.inl ⟨by rfl, fun w hSw => ?_⟩) hHeld ?_
      · (try dsimp only at hSw)
        unfold oE4
        go_simp
      try simp only [oE4, Act.put, List.setIfInBounds_toArray, List.set_cons_zero, List.set_cons_succ]
      refine wpAnyH_ready (rs := [5]) (by kernel_rfl) (by simp) ?_
      refine AllReadyH.cons (o := oE5) rfl (fun K hK => ?_) AllReadyH.nil
      unfold oE5
      go_simp
      refine hK.out _ _ trivial (fun hHeld => ?_)
      clear hK K
      try simp only [oE5, Act.put, List.setIfInBounds_toArray, List.set_cons_zero, List.set_cons_succ]
      refine wpAnyH_ready (rs := [9]) (by kernel_rfl) (by simp) ?_
      refine AllReadyH.cons (o := oE9) rfl (fun K hK => ?_) AllReadyH.nil
      unfold oE9
      go_simp
      refine (iEndEnded w3.drew _ _ kind way).mono ?_
      rintro e u4 ⟨rfl, bb⟩
      have D4 := hide ((unhide D3d).step bb)
      clear bb
      go_wp2_with fail
      refine hK.out _ _ trivial (fun hHeld => ?_)
      clear hK K
      try simp only [oE9, Act.put, List.setIfInBounds_toArray, List.set_cons_zero, List.set_cons_succ]
      refine wpAnyH_take (i := 10) (oi := oE10) (v := .int .i64 0) rfl (by kernel_rfl) (by kernel_rfl) (by kernel_rfl) (fun _ _ _ h => h) (Or.inl ⟨by rfl, fun w hSw => ?_⟩) hHeld ?_
      · (try dsimp only at hSw)
        unfold oE10
        go_simp
      try simp only [oE10, Act.put, List.setIfInBounds_toArray, List.set_cons_zero, List.set_cons_succ]
      refine wpAnyH_take (i := 11) (oi := oE11) (v := .int .i64 6) rfl (by kernel_rfl) (by kernel_rfl) (by kernel_rfl) (fun _ _ _ h => h) (Or.inl ⟨by rfl, fun w hSw => ?_⟩) hHeld ?_
      · (try dsimp only at hSw)
        unfold oE11
        go_simp
      try simp only [oE11, Act.put, List.setIfInBounds_toArray, List.set_cons_zero, List.set_cons_succ]
      refine wpAnyH_take (i := 12) (oi := oE12) (v := .int .i64 0) rfl (by kernel_rfl) (by kernel_rfl) (by kernel_rfl) (fun _ _ _ h => h) (Or.inl ⟨by rfl, fun w hSw => ?_⟩) hHeld ?_
      · (try dsimp only at hSw)
        unfold oE12
        go_simp
      try simp only [oE12, Act.put, List.setIfInBounds_toArray, List.set_cons_zero, List.set_cons_succ]
      refine wpAnyH_take (i := 13) (oi := oE13) (v := .int .i64 6) rfl (by kernel_rfl) (by kernel_rfl) (by kernel_rfl) (fun _ _ _ h => h) (Or.inl ⟨by rfl, fun w hSw => ?_⟩) hHeld ?_
      · (try dsimp only at hSw)
        unfold oE13
        go_simp
      try simp only [oE13, Act.put, List.setIfInBounds_toArray, List.set_cons_zero, List.set_cons_succ]
      refine wpAnyH_done (by kernel_rfl) ?_ _
      go_wp2
      go_ret2
      exact ⟨z.b, 0, 6, unhide EE, rfl, .inr ⟨by omega, Var.any (unhide D4).v⟩, Frm.below (unhide D4).b bu⟩
  · have EE := hide (end_ended (way := way) (unhide KD) (unhide HK) (by rw [unhide HST]; decide))
    refine wp_region_held_drew (S := (fun _ => True)) (by kernel_rfl) trivial (fun hHeld => ?_)
    refine wpAnyH_take (i := 0) (oi := oE0) (v := .pointer (some ⟨z.gt, k * 8, none⟩)) rfl (by kernel_rfl) (by kernel_rfl) (by kernel_rfl) (fun _ _ _ h => h) (Or.inl ⟨by rfl, fun w hSw => ?_⟩) hHeld ?_
    · (try dsimp only at hSw)
      unfold oE0
      go_simp
    try simp only [oE0, Act.put, List.setIfInBounds_toArray, List.set_cons_zero, List.set_cons_succ]
    refine wpAnyH_take (i := 1) (oi := oE1) (v := .pointer (some ⟨z.gt, k * 8, none⟩)) rfl (by kernel_rfl) (by kernel_rfl) (by kernel_rfl) (fun _ _ _ h => h) (Or.inl ⟨by rfl, fun w hSw => ?_⟩) hHeld ?_
    · (try dsimp only at hSw)
      unfold oE1
      go_simp
    try simp only [oE1, Act.put, List.setIfInBounds_toArray, List.set_cons_zero, List.set_cons_succ]
    refine wpAnyH_take (i := 2) (oi := oE2) (v := .pointer (some ⟨z.gt, k * 8 + 7, none⟩)) rfl (by kernel_rfl) (by kernel_rfl) (by kernel_rfl) (fun _ _ _ h => h) (Or.inl ⟨by rfl, fun w hSw => ?_⟩) hHeld ?_
    · (try dsimp only at hSw)
      unfold oE2
      go_simp
    try simp only [oE2, Act.put, List.setIfInBounds_toArray, List.set_cons_zero, List.set_cons_succ]
    refine wpAnyH_take (i := 6) (oi := oE6) (v := .pointer (some ⟨g, 0, none⟩)) rfl (by kernel_rfl) (by kernel_rfl) (by kernel_rfl) (fun _ _ _ h => h) (Or.inl ⟨by rfl, fun w hSw => ?_⟩) hHeld ?_
    · (try dsimp only at hSw)
      unfold oE6
      go_simp
    try simp only [oE6, Act.put, List.setIfInBounds_toArray, List.set_cons_zero, List.set_cons_succ]
    refine wpAnyH_take (i := 7) (oi := oE7) (v := .pointer (some ⟨z.gt, k * 8, none⟩)) rfl (by kernel_rfl) (by kernel_rfl) (by kernel_rfl) (fun _ _ _ h => h) (Or.inl ⟨by rfl, fun w hSw => ?_⟩) hHeld ?_
    · (try dsimp only at hSw)
      unfold oE7
      go_simp
    try simp only [oE7, Act.put, List.setIfInBounds_toArray, List.set_cons_zero, List.set_cons_succ]
    refine wpAnyH_ready (rs := [3, 8]) (by kernel_rfl) (by simp) ?_
    refine AllReadyH.cons (o := oE3) rfl (fun K hK => ?_) (AllReadyH.cons (o := oE8) rfl (fun K hK => ?_) AllReadyH.nil)
    · unfold oE3
      go_simp
      refine hK.out _ _ trivial (fun hHeld => ?_)
      clear hK K
      try simp only [oE3, Act.put, List.setIfInBounds_toArray, List.set_cons_zero, List.set_cons_succ]
      refine wpAnyH_take (i := 4) (oi := oE4) (v := .pointer (some ⟨w2.heap.size, 3, none⟩)) rfl (by kernel_rfl) (by kernel_rfl) (by kernel_rfl) (fun _ _ _ h => h) (Or.inl ⟨by rfl, fun w hSw => ?_⟩) hHeld ?_
      · (try dsimp only at hSw)
        unfold oE4
        go_simp
      try simp only [oE4, Act.put, List.setIfInBounds_toArray, List.set_cons_zero, List.set_cons_succ]
      refine wpAnyH_ready (rs := [5, 8]) (by kernel_rfl) (by simp) ?_
      refine AllReadyH.cons (o := oE5) rfl (fun K hK => ?_) (AllReadyH.cons (o := oE8) rfl (fun K hK => ?_) AllReadyH.nil)
      · unfold oE5
        go_simp
        refine hK.out _ _ trivial (fun hHeld => ?_)
        clear hK K
        try simp only [oE5, Act.put, List.setIfInBounds_toArray, List.set_cons_zero, List.set_cons_succ]
        refine wpAnyH_ready (rs := [8]) (by kernel_rfl) (by simp) ?_
        refine AllReadyH.cons (o := oE8) rfl (fun K hK => ?_) AllReadyH.nil
        unfold oE8
        go_simp
        refine hK.out _ _ trivial (fun hHeld => ?_)
        clear hK K
        try simp only [oE8, Act.put, List.setIfInBounds_toArray, List.set_cons_zero, List.set_cons_succ]
        refine wpAnyH_ready (rs := [9]) (by kernel_rfl) (by simp) ?_
        refine AllReadyH.cons (o := oE9) rfl (fun K hK => ?_) AllReadyH.nil
        unfold oE9
        go_simp
        refine (iEndEnded w3.drew _ _ kind way).mono ?_
        rintro e u4 ⟨rfl, bb⟩
        have D4 := hide ((unhide D3d).step bb)
        clear bb
        go_wp2_with fail
        refine hK.out _ _ trivial (fun hHeld => ?_)
        clear hK K
        try simp only [oE9, Act.put, List.setIfInBounds_toArray, List.set_cons_zero, List.set_cons_succ]
        refine wpAnyH_take (i := 10) (oi := oE10) (v := .int .i64 0) rfl (by kernel_rfl) (by kernel_rfl) (by kernel_rfl) (fun _ _ _ h => h) (Or.inl ⟨by rfl, fun w hSw => ?_⟩) hHeld ?_
        · (try dsimp only at hSw)
          unfold oE10
          go_simp
        try simp only [oE10, Act.put, List.setIfInBounds_toArray, List.set_cons_zero, List.set_cons_succ]
        refine wpAnyH_take (i := 11) (oi := oE11) (v := .int .i64 6) rfl (by kernel_rfl) (by kernel_rfl) (by kernel_rfl) (fun _ _ _ h => h) (Or.inl ⟨by rfl, fun w hSw => ?_⟩) hHeld ?_
        · (try dsimp only at hSw)
          unfold oE11
          go_simp
        try simp only [oE11, Act.put, List.setIfInBounds_toArray, List.set_cons_zero, List.set_cons_succ]
        refine wpAnyH_take (i := 12) (oi := oE12) (v := .int .i64 0) rfl (by kernel_rfl) (by kernel_rfl) (by kernel_rfl) (fun _ _ _ h => h) (Or.inl ⟨by rfl, fun w hSw => ?_⟩) hHeld ?_
        · (try dsimp only at hSw)
          unfold oE12
          go_simp
        try simp only [oE12, Act.put, List.setIfInBounds_toArray, List.set_cons_zero, List.set_cons_succ]
        refine wpAnyH_take (i := 13) (oi := oE13) (v := .int .i64 6) rfl (by kernel_rfl) (by kernel_rfl) (by kernel_rfl) (fun _ _ _ h => h) (Or.inl ⟨by rfl, fun w hSw => ?_⟩) hHeld ?_
        · (try dsimp only at hSw)
          unfold oE13
          go_simp
        try simp only [oE13, Act.put, List.setIfInBounds_toArray, List.set_cons_zero, List.set_cons_succ]
        refine wpAnyH_done (by kernel_rfl) ?_ _
        go_wp2
        go_ret2
        exact ⟨z.b, 0, 6, unhide EE, rfl, .inr ⟨by omega, Var.any (unhide D4).v⟩, Frm.below (unhide D4).b bu⟩
      · unfold oE8
        go_simp
        refine hK.out _ _ trivial (fun hHeld => ?_)
        clear hK K
        try simp only [oE8, Act.put, List.setIfInBounds_toArray, List.set_cons_zero, List.set_cons_succ]
        refine wpAnyH_ready (rs := [5]) (by kernel_rfl) (by simp) ?_
        refine AllReadyH.cons (o := oE5) rfl (fun K hK => ?_) AllReadyH.nil
        unfold oE5
        go_simp
        refine hK.out _ _ trivial (fun hHeld => ?_)
        clear hK K
        try simp only [oE5, Act.put, List.setIfInBounds_toArray, List.set_cons_zero, List.set_cons_succ]
        refine wpAnyH_ready (rs := [9]) (by kernel_rfl) (by simp) ?_
        refine AllReadyH.cons (o := oE9) rfl (fun K hK => ?_) AllReadyH.nil
        unfold oE9
        go_simp
        refine (iEndEnded w3.drew _ _ kind way).mono ?_
        rintro e u4 ⟨rfl, bb⟩
        have D4 := hide ((unhide D3d).step bb)
        clear bb
        go_wp2_with fail
        refine hK.out _ _ trivial (fun hHeld => ?_)
        clear hK K
        try simp only [oE9, Act.put, List.setIfInBounds_toArray, List.set_cons_zero, List.set_cons_succ]
        refine wpAnyH_take (i := 10) (oi := oE10) (v := .int .i64 0) rfl (by kernel_rfl) (by kernel_rfl) (by kernel_rfl) (fun _ _ _ h => h) (Or.inl ⟨by rfl, fun w hSw => ?_⟩) hHeld ?_
        · (try dsimp only at hSw)
          unfold oE10
          go_simp
        try simp only [oE10, Act.put, List.setIfInBounds_toArray, List.set_cons_zero, List.set_cons_succ]
        refine wpAnyH_take (i := 11) (oi := oE11) (v := .int .i64 6) rfl (by kernel_rfl) (by kernel_rfl) (by kernel_rfl) (fun _ _ _ h => h) (Or.inl ⟨by rfl, fun w hSw => ?_⟩) hHeld ?_
        · (try dsimp only at hSw)
          unfold oE11
          go_simp
        try simp only [oE11, Act.put, List.setIfInBounds_toArray, List.set_cons_zero, List.set_cons_succ]
        refine wpAnyH_take (i := 12) (oi := oE12) (v := .int .i64 0) rfl (by kernel_rfl) (by kernel_rfl) (by kernel_rfl) (fun _ _ _ h => h) (Or.inl ⟨by rfl, fun w hSw => ?_⟩) hHeld ?_
        · (try dsimp only at hSw)
          unfold oE12
          go_simp
        try simp only [oE12, Act.put, List.setIfInBounds_toArray, List.set_cons_zero, List.set_cons_succ]
        refine wpAnyH_take (i := 13) (oi := oE13) (v := .int .i64 6) rfl (by kernel_rfl) (by kernel_rfl) (by kernel_rfl) (fun _ _ _ h => h) (Or.inl ⟨by rfl, fun w hSw => ?_⟩) hHeld ?_
        · (try dsimp only at hSw)
          unfold oE13
          go_simp
        try simp only [oE13, Act.put, List.setIfInBounds_toArray, List.set_cons_zero, List.set_cons_succ]
        refine wpAnyH_done (by kernel_rfl) ?_ _
        go_wp2
        go_ret2
        exact ⟨z.b, 0, 6, unhide EE, rfl, .inr ⟨by omega, Var.any (unhide D4).v⟩, Frm.below (unhide D4).b bu⟩
    · unfold oE8
      go_simp
      refine hK.out _ _ trivial (fun hHeld => ?_)
      clear hK K
      try simp only [oE8, Act.put, List.setIfInBounds_toArray, List.set_cons_zero, List.set_cons_succ]
      refine wpAnyH_ready (rs := [3]) (by kernel_rfl) (by simp) ?_
      refine AllReadyH.cons (o := oE3) rfl (fun K hK => ?_) AllReadyH.nil
      unfold oE3
      go_simp
      refine hK.out _ _ trivial (fun hHeld => ?_)
      clear hK K
      try simp only [oE3, Act.put, List.setIfInBounds_toArray, List.set_cons_zero, List.set_cons_succ]
      refine wpAnyH_take (i := 4) (oi := oE4) (v := .pointer (some ⟨w2.heap.size, 3, none⟩)) rfl (by kernel_rfl) (by kernel_rfl) (by kernel_rfl) (fun _ _ _ h => h) (Or.inl ⟨by rfl, fun w hSw => ?_⟩) hHeld ?_
      · (try dsimp only at hSw)
        unfold oE4
        go_simp
      try simp only [oE4, Act.put, List.setIfInBounds_toArray, List.set_cons_zero, List.set_cons_succ]
      refine wpAnyH_ready (rs := [5]) (by kernel_rfl) (by simp) ?_
      refine AllReadyH.cons (o := oE5) rfl (fun K hK => ?_) AllReadyH.nil
      unfold oE5
      go_simp
      refine hK.out _ _ trivial (fun hHeld => ?_)
      clear hK K
      try simp only [oE5, Act.put, List.setIfInBounds_toArray, List.set_cons_zero, List.set_cons_succ]
      refine wpAnyH_ready (rs := [9]) (by kernel_rfl) (by simp) ?_
      refine AllReadyH.cons (o := oE9) rfl (fun K hK => ?_) AllReadyH.nil
      unfold oE9
      go_simp
      refine (iEndEnded w3.drew _ _ kind way).mono ?_
      rintro e u4 ⟨rfl, bb⟩
      have D4 := hide ((unhide D3d).step bb)
      clear bb
      go_wp2_with fail
      refine hK.out _ _ trivial (fun hHeld => ?_)
      clear hK K
      try simp only [oE9, Act.put, List.setIfInBounds_toArray, List.set_cons_zero, List.set_cons_succ]
      refine wpAnyH_take (i := 10) (oi := oE10) (v := .int .i64 0) rfl (by kernel_rfl) (by kernel_rfl) (by kernel_rfl) (fun _ _ _ h => h) (Or.inl ⟨by rfl, fun w hSw => ?_⟩) hHeld ?_
      · (try dsimp only at hSw)
        unfold oE10
        go_simp
      try simp only [oE10, Act.put, List.setIfInBounds_toArray, List.set_cons_zero, List.set_cons_succ]
      refine wpAnyH_take (i := 11) (oi := oE11) (v := .int .i64 6) rfl (by kernel_rfl) (by kernel_rfl) (by kernel_rfl) (fun _ _ _ h => h) (Or.inl ⟨by rfl, fun w hSw => ?_⟩) hHeld ?_
      · (try dsimp only at hSw)
        unfold oE11
        go_simp
      try simp only [oE11, Act.put, List.setIfInBounds_toArray, List.set_cons_zero, List.set_cons_succ]
      refine wpAnyH_take (i := 12) (oi := oE12) (v := .int .i64 0) rfl (by kernel_rfl) (by kernel_rfl) (by kernel_rfl) (fun _ _ _ h => h) (Or.inl ⟨by rfl, fun w hSw => ?_⟩) hHeld ?_
      · (try dsimp only at hSw)
        unfold oE12
        go_simp
      try simp only [oE12, Act.put, List.setIfInBounds_toArray, List.set_cons_zero, List.set_cons_succ]
      refine wpAnyH_take (i := 13) (oi := oE13) (v := .int .i64 6) rfl (by kernel_rfl) (by kernel_rfl) (by kernel_rfl) (fun _ _ _ h => h) (Or.inl ⟨by rfl, fun w hSw => ?_⟩) hHeld ?_
      · (try dsimp only at hSw)
        unfold oE13
        go_simp
      try simp only [oE13, Act.put, List.setIfInBounds_toArray, List.set_cons_zero, List.set_cons_succ]
      refine wpAnyH_done (by kernel_rfl) ?_ _
      go_wp2
      go_ret2
      exact ⟨z.b, 0, 6, unhide EE, rfl, .inr ⟨by omega, Var.any (unhide D4).v⟩, Frm.below (unhide D4).b bu⟩
end Go.Proofs.YtpdgljjndgikoaaGreat.IEnd
namespace Go.Proofs.YtpdgljjndgikoaaGreat.CancelTellI
open Go.ChangeShapes Go.WideShapes Go.ChangeAt Go.RowKit BMem Bks ILists BHelp Ans ICopied ICmdB IHave ICmdW ICmdF Trd
open SIssue (to_wb off_box)
open IBalsFit (one_more all_one)
open ITrade (at_new)
open Lots (Says says_of NoOk)
open IssueTellI (more)
open SCancel (ToldC)
open IEnd (EndP)
open SSettle (to_wc)
structure TW (w W : World) (x : Bx) (no : Int) : Prop where
  r : Rd W x
  c : Cl W w.heap.size x
  n1 : W.cell? ⟨w.heap.size + 1, 0, none⟩ = some (.int .i64 no)
  v : Box W w.heap.size (w.heap.size + 1 + 1) (.slice none 0 0) (.slice none 0 0) (.slice none 0 0) (.slice none 0 0) (.slice none 0 0) (.int .i64 0)
  b : Below w.heap.size w W
theorem TW.step {w W W' : World} {x : Bx} {no : Int} (h : TW w W x no) (k : Below W.heap.size W W') : TW w W' x no := by
  have l := h.v.lt
  exact ⟨h.r.below k, h.c.below k (by omega), (k.cell (p := ⟨w.heap.size + 1, 0, none⟩) (by simp <;> omega)).trans h.n1, h.v.below k (by omega), h.b.trans (k.mono h.b.size)⟩
theorem TW.start {w : World} {x : Bx} {no : Int} (h : Rd w x) : TW w (((w.alloc (.cells #[.slice (some ⟨x.ga, 0, none⟩) x.b.ac.length x.ca, .slice (some ⟨x.gi, 0, none⟩) x.b.ic.length x.ci, .slice (some ⟨x.gb, 0, none⟩) x.b.bs.length x.cb, .slice (some ⟨x.gl, 0, none⟩) x.b.ls.length x.cl, .slice (some ⟨x.gt, 0, none⟩) x.b.ts.length x.ct, .int .i64 x.b.lot] 36)).alloc (.cells #[.int .i64 no] 3)).alloc (.cells #[.slice none 0 0, .slice none 0 0, .slice none 0 0, .slice none 0 0, .slice none 0 0, .int .i64 0] 36)) x no := by
  have b : Below (w.heap.size + 1) (w.alloc (.cells #[.slice (some ⟨x.ga, 0, none⟩) x.b.ac.length x.ca, .slice (some ⟨x.gi, 0, none⟩) x.b.ic.length x.ci, .slice (some ⟨x.gb, 0, none⟩) x.b.bs.length x.cb, .slice (some ⟨x.gl, 0, none⟩) x.b.ls.length x.cl, .slice (some ⟨x.gt, 0, none⟩) x.b.ts.length x.ct, .int .i64 x.b.lot] 36)) (((w.alloc (.cells #[.slice (some ⟨x.ga, 0, none⟩) x.b.ac.length x.ca, .slice (some ⟨x.gi, 0, none⟩) x.b.ic.length x.ci, .slice (some ⟨x.gb, 0, none⟩) x.b.bs.length x.cb, .slice (some ⟨x.gl, 0, none⟩) x.b.ls.length x.cl, .slice (some ⟨x.gt, 0, none⟩) x.b.ts.length x.ct, .int .i64 x.b.lot] 36)).alloc (.cells #[.int .i64 no] 3)).alloc (.cells #[.slice none 0 0, .slice none 0 0, .slice none 0 0, .slice none 0 0, .slice none 0 0, .int .i64 0] 36)) :=
    ((Below.refl _ _).alloc (by simp) _).alloc (by simp <;> omega) _
  refine ⟨h.below (((Below.refl w.heap.size w).alloc (Nat.le_refl _) _).trans (b.mono (by omega))), (boxed w x 36).below b (by omega), ?_, Box.made _ _ _ _ _ _ (by simp <;> omega) (by simp), ((Below.refl w.heap.size w).alloc (Nat.le_refl _) _).trans (b.mono (by omega))⟩
  · exact more (cell_new _ _ _ (by simp)) (by simp) _
theorem TW.hold {w W : World} {x : Bx} {no : Int} (h : TW w W x no) : W.cell? ⟨w.heap.size, 0, none⟩ = some (.slice (some ⟨x.ga, 0, none⟩) x.b.ac.length x.ca) ∧ W.cell? ⟨w.heap.size, 1, none⟩ = some (.slice (some ⟨x.gi, 0, none⟩) x.b.ic.length x.ci) ∧ W.cell? ⟨w.heap.size, 2, none⟩ = some (.slice (some ⟨x.gb, 0, none⟩) x.b.bs.length x.cb) ∧ W.cell? ⟨w.heap.size, 3, none⟩ = some (.slice (some ⟨x.gl, 0, none⟩) x.b.ls.length x.cl) ∧ W.cell? ⟨w.heap.size, 4, none⟩ = some (.slice (some ⟨x.gt, 0, none⟩) x.b.ts.length x.ct) ∧ W.cell? ⟨w.heap.size, 5, none⟩ = some (.int .i64 x.b.lot) ∧ W.cell? ⟨w.heap.size + 1, 0, none⟩ = some (.int .i64 no) := ⟨h.c.c0, h.c.c1, h.c.c2, h.c.c3, h.c.c4, h.c.c5, h.n1⟩
theorem TW.holdG {w W W' : World} {x : Bx} {no : Int} {p : Nat} (h : TW w W x no) (k : W.grownBy W' (some p)) (hp : w.heap.size + 1 < p) : W'.cell? ⟨w.heap.size, 0, none⟩ = some (.slice (some ⟨x.ga, 0, none⟩) x.b.ac.length x.ca) ∧ W'.cell? ⟨w.heap.size, 1, none⟩ = some (.slice (some ⟨x.gi, 0, none⟩) x.b.ic.length x.ci) ∧ W'.cell? ⟨w.heap.size, 2, none⟩ = some (.slice (some ⟨x.gb, 0, none⟩) x.b.bs.length x.cb) ∧ W'.cell? ⟨w.heap.size, 3, none⟩ = some (.slice (some ⟨x.gl, 0, none⟩) x.b.ls.length x.cl) ∧ W'.cell? ⟨w.heap.size, 4, none⟩ = some (.slice (some ⟨x.gt, 0, none⟩) x.b.ts.length x.ct) ∧ W'.cell? ⟨w.heap.size, 5, none⟩ = some (.int .i64 x.b.lot) ∧ W'.cell? ⟨w.heap.size + 1, 0, none⟩ = some (.int .i64 no) := by
  have q0 : some w.heap.size ≠ some p := fun e => by injection e; omega
  have q1 : some (w.heap.size + 1) ≠ some p := fun e => by injection e; omega
  exact ⟨k.cell h.c.c0 q0, k.cell h.c.c1 q0, k.cell h.c.c2 q0, k.cell h.c.c3 q0, k.cell h.c.c4 q0, k.cell h.c.c5 q0, k.cell h.n1 q1⟩
theorem cancel_done {b b' : Bk} {no t : Int} (h : EndP b no 0 0 b' t 0) : IsCancel b no b' 0 := by
  rcases h with ⟨_, h, _⟩ | ⟨e, _⟩
  · exact h
  · exact absurd e (by decide)
theorem cancel_not {b b' : Bk} {no t c : Int} (h : EndP b no 0 0 b' t c) (hc : c ≠ 0) : IsCancel b no b c := by
  rcases h with ⟨_, h, _⟩ | ⟨e, _⟩
  · rcases h with ⟨h, rfl, rfl⟩ | ⟨k, h, ⟨h1, rfl, rfl⟩ | ⟨h1, rfl, rfl⟩⟩
    · exact .inl ⟨h, rfl, rfl⟩
    · exact .inr ⟨k, h, .inl ⟨h1, rfl, rfl⟩⟩
    · exact absurd rfl hc
  · exact absurd e (by decide)
set_option maxRecDepth 100000 in
theorem iClosure (u : World) (z : Bx) (base g : Nat) (p1 : Addr) (no : Int) (h1 : u.cell? p1 = some (.int .i64 no)) (ok : Ok z.b) (V : Var u base g z) (O : Ow u (base + 4) z) (hg : g < base + 4) :
    Calls Tryz.prog 30 #[.pointer (some ⟨g, 0, none⟩), .pointer (some p1)] u (DoesW (EndP z.b no 0 0) base g u) := by
  have V1 := hide V
  have O1 := hide O
  have OK := hide ok
  clear V O ok
  go_enter Tryz.func30, Tryz.ntmps30
  go_wp2_with fail
  refine (IEnd.iEndTrade u z base g no 0 0 (unhide OK) (.inl rfl) (unhide V1) (unhide O1) hg).mono ?_
  rintro e u' ⟨b', t, c, hI, rfl, hz, gr⟩
  have HI := hide hI
  have HZ := hide hz
  have GR := hide gr
  clear hI hz gr
  go_wp2
  go_ret2
  exact ⟨b', t, c, unhide HI, rfl, unhide HZ, unhide GR⟩
abbrev oC0 : Oper := { dst := some 10, op := Go.Op.load 36 (Go.Operand.tmp 2), type := 36, pos := "l07_trade.go:30", after := #[], guard := none }
abbrev oC1 : Oper := { dst := some 11, op := Go.Op.load 3 (Go.Operand.tmp 3), type := 3, pos := "l07_trade.go:30", after := #[], guard := none }
abbrev oC2 : Oper := { dst := some 12, op := Go.Op.buildSlice 108 1 #[(0, Go.Operand.tmp 11)], type := 108, pos := "l07_trade.go:30", after := #[{ on := 1, ground := Go.Ground.data }], guard := none }
abbrev oC3 : Oper := { dst := some 13, op := Go.Op.call { callee := Go.Callee.value (Go.Operand.func 29), args := #[Go.Operand.tmp 12], argTypes := #[108] }, type := 4, pos := "l07_trade.go:30", after := #[{ on := 2, ground := Go.Ground.data }], guard := none }
abbrev oC4 : Oper := { dst := some 14, op := Go.Op.makeFunc (Go.Fn.func 30) #[] #[Go.Operand.tmp 3], type := 69, pos := "l07_trade.go:30", after := #[], guard := none }
abbrev oC5 : Oper := { dst := some 15, op := Go.Op.call { callee := Go.Callee.value (Go.Operand.func 28), args := #[Go.Operand.tmp 10, Go.Operand.tmp 13, Go.Operand.tmp 14], argTypes := #[36, 4, 69] }, type := 43, pos := "l07_trade.go:30", after := #[{ on := 0, ground := Go.Ground.data }, { on := 3, ground := Go.Ground.data }, { on := 4, ground := Go.Ground.data }, { on := 3, ground := Go.Ground.chain }], guard := none }
abbrev oC6 : Oper := { dst := some 9, op := Go.Op.move (Go.Operand.tmp 15), type := 43, pos := "l07_trade.go:30", after := #[{ on := 5, ground := Go.Ground.data }], guard := none }
abbrev oC7 : Oper := { dst := some 16, op := Go.Op.extract (Go.Operand.tmp 9) 0, type := 36, pos := "l07_trade.go:30", after := #[{ on := 6, ground := Go.Ground.data }], guard := none }
abbrev oC8 : Oper := { dst := some 17, op := Go.Op.extract (Go.Operand.tmp 9) 1, type := 3, pos := "l07_trade.go:30", after := #[{ on := 6, ground := Go.Ground.data }, { on := 11, ground := Go.Ground.gcOnly Go.Departure.lateStores }], guard := none }
abbrev oC9 : Oper := { dst := some 18, op := Go.Op.extract (Go.Operand.tmp 9) 2, type := 3, pos := "l07_trade.go:30", after := #[{ on := 6, ground := Go.Ground.data }, { on := 12, ground := Go.Ground.gcOnly Go.Departure.lateStores }], guard := none }
abbrev oC10 : Oper := { dst := some 6, op := Go.Op.alloc 36, type := 0, pos := "l07_trade.go:30", after := #[], guard := none }
abbrev oC11 : Oper := { dst := none, op := Go.Op.store 36 (Go.Operand.tmp 6) (Go.Operand.tmp 16), type := 0, pos := "l07_trade.go:30", after := #[{ on := 10, ground := Go.Ground.data }, { on := 7, ground := Go.Ground.data }, { on := 5, ground := Go.Ground.chain }, { on := 0, ground := Go.Ground.phase }, { on := 1, ground := Go.Ground.phase }, { on := 2, ground := Go.Ground.phase }, { on := 3, ground := Go.Ground.phase }, { on := 4, ground := Go.Ground.phase }, { on := 5, ground := Go.Ground.phase }, { on := 6, ground := Go.Ground.phase }, { on := 7, ground := Go.Ground.phase }, { on := 8, ground := Go.Ground.textOnly Go.Departure.lateStores }, { on := 9, ground := Go.Ground.textOnly Go.Departure.lateStores }, { on := 10, ground := Go.Ground.phase }], guard := none }
abbrev oC12 : Oper := { dst := some 7, op := Go.Op.assign (Go.Operand.tmp 17), type := 3, pos := "l07_trade.go:30", after := #[{ on := 8, ground := Go.Ground.data }, { on := 11, ground := Go.Ground.chain }, { on := 0, ground := Go.Ground.phase }, { on := 1, ground := Go.Ground.phase }, { on := 2, ground := Go.Ground.phase }, { on := 3, ground := Go.Ground.phase }, { on := 4, ground := Go.Ground.phase }, { on := 5, ground := Go.Ground.phase }, { on := 6, ground := Go.Ground.phase }, { on := 7, ground := Go.Ground.phase }, { on := 8, ground := Go.Ground.phase }, { on := 9, ground := Go.Ground.textOnly Go.Departure.lateStores }, { on := 10, ground := Go.Ground.phase }, { on := 11, ground := Go.Ground.phase }], guard := none }
abbrev oC13 : Oper := { dst := some 8, op := Go.Op.assign (Go.Operand.tmp 18), type := 3, pos := "l07_trade.go:30", after := #[{ on := 9, ground := Go.Ground.data }, { on := 12, ground := Go.Ground.chain }, { on := 0, ground := Go.Ground.phase }, { on := 1, ground := Go.Ground.phase }, { on := 2, ground := Go.Ground.phase }, { on := 3, ground := Go.Ground.phase }, { on := 4, ground := Go.Ground.phase }, { on := 5, ground := Go.Ground.phase }, { on := 6, ground := Go.Ground.phase }, { on := 7, ground := Go.Ground.phase }, { on := 8, ground := Go.Ground.phase }, { on := 9, ground := Go.Ground.phase }, { on := 10, ground := Go.Ground.phase }, { on := 11, ground := Go.Ground.phase }, { on := 12, ground := Go.Ground.phase }], guard := none }
set_option maxRecDepth 100000 in
set_option maxHeartbeats 16000000 in
theorem iTell (w : World) (x : Bx) (no : Int) (h : Rd w x) :
    Calls Tryz.prog 8 #[.agg #[.slice (some ⟨x.ga, 0, none⟩) x.b.ac.length x.ca, .slice (some ⟨x.gi, 0, none⟩) x.b.ic.length x.ci, .slice (some ⟨x.gb, 0, none⟩) x.b.bs.length x.cb, .slice (some ⟨x.gl, 0, none⟩) x.b.ls.length x.cl, .slice (some ⟨x.gt, 0, none⟩) x.b.ts.length x.ct, .int .i64 x.b.lot], .int .i64 no] w (AnsB (ToldC x.b no) (IsCancel x.b no) w) := by
  obtain ⟨b1, h1⟩ := says_of (∀ y ∈ [no], NoOk y)
  have HT := hide (show Says b1 (NoOk no) from ⟨fun e => h1.1 e no (by simp), fun r => h1.of (fun y hy => by
    simp only [List.mem_cons, List.not_mem_nil, or_false] at hy
    subst hy
    exact r)⟩)
  have H1 := hide h1
  have S0 := hide (TW.start (no := no) h)
  clear h1 h
  go_enter Tryz.func8, Tryz.ntmps8
  go_wp2_with fail
  generalize ((w.alloc (.cells #[.slice (some ⟨x.ga, 0, none⟩) x.b.ac.length x.ca, .slice (some ⟨x.gi, 0, none⟩) x.b.ic.length x.ci, .slice (some ⟨x.gb, 0, none⟩) x.b.bs.length x.cb, .slice (some ⟨x.gl, 0, none⟩) x.b.ls.length x.cl, .slice (some ⟨x.gt, 0, none⟩) x.b.ts.length x.ct, .int .i64 x.b.lot] 36)).alloc (.cells #[.int .i64 no] 3)).alloc (.cells #[.slice none 0 0, .slice none 0 0, .slice none 0 0, .slice none 0 0, .slice none 0 0, .int .i64 0] 36) = w0 at *
  have z0 : w.heap.size + 1 + 1 < w0.heap.size := (unhide S0).v.lt.2
  have hmf : ∀ (fn : Fn) (first cp : Array Value) (w : World), (Instr.makeFunc fn first cp).run Tryz.prog w = .ok (.func fn first cp) w := fun _ _ _ _ => rfl
  have HF := hide (show ∀ W : World, TW w W x no → w0.heap.size ≤ W.heap.size → Ok x.b → (NoOk no) → ∀ (u : World) (z : Bx), z.b = x.b → Var u W.heap.size (W.heap.size + 1) z → Ow u (W.heap.size + 4) z → Below W.heap.size W u → Calls Tryz.prog 30 (#[.pointer (some ⟨W.heap.size + 1, 0, none⟩)] ++ #[.pointer (some ⟨w.heap.size + 1, 0, none⟩)]) u (DoesW (EndP x.b no 0 0) W.heap.size (W.heap.size + 1) u) from by
    intro W tw s ok ta u z hz V O bb
    have q := iClosure u z W.heap.size (W.heap.size + 1) ⟨w.heap.size + 1, 0, none⟩ no ((bb.cell (p := ⟨w.heap.size + 1, 0, none⟩) (by simp <;> omega)).trans tw.n1) (by rw [hz]; exact ok) V O (by omega)
    rw [hz] at q
    exact q)
  have SB := hide (((unhide S0).step (Below.refl _ _).drew).step (one_more w0.drew (.cells #[.int .i64 no] 3)))
  refine wp_region_held_drew (S := (fun w' => w'.cell? ⟨w.heap.size, 0, none⟩ = some (.slice (some ⟨x.ga, 0, none⟩) x.b.ac.length x.ca) ∧ w'.cell? ⟨w.heap.size, 1, none⟩ = some (.slice (some ⟨x.gi, 0, none⟩) x.b.ic.length x.ci) ∧ w'.cell? ⟨w.heap.size, 2, none⟩ = some (.slice (some ⟨x.gb, 0, none⟩) x.b.bs.length x.cb) ∧ w'.cell? ⟨w.heap.size, 3, none⟩ = some (.slice (some ⟨x.gl, 0, none⟩) x.b.ls.length x.cl) ∧ w'.cell? ⟨w.heap.size, 4, none⟩ = some (.slice (some ⟨x.gt, 0, none⟩) x.b.ts.length x.ct) ∧ w'.cell? ⟨w.heap.size, 5, none⟩ = some (.int .i64 x.b.lot) ∧ w'.cell? ⟨w.heap.size + 1, 0, none⟩ = some (.int .i64 no))) (by kernel_rfl) (unhide S0).hold (fun hHeld => ?_)
  refine wpAnyH_take (i := 0) (oi := oC0) (v := .agg #[.slice (some ⟨x.ga, 0, none⟩) x.b.ac.length x.ca, .slice (some ⟨x.gi, 0, none⟩) x.b.ic.length x.ci, .slice (some ⟨x.gb, 0, none⟩) x.b.bs.length x.cb, .slice (some ⟨x.gl, 0, none⟩) x.b.ls.length x.cl, .slice (some ⟨x.gt, 0, none⟩) x.b.ts.length x.ct, .int .i64 x.b.lot]) rfl (by kernel_rfl) (by kernel_rfl) (by kernel_rfl) (fun _ _ _ h => h) (Or.inl ⟨by rfl, fun w hSw => ?_⟩) hHeld ?_
  · (try dsimp only at hSw)
    unfold oC0
    go_simp
  try simp only [oC0, Act.put, List.setIfInBounds_toArray, List.set_cons_zero, List.set_cons_succ]
  refine wpAnyH_take (i := 1) (oi := oC1) (v := .int .i64 no) rfl (by kernel_rfl) (by kernel_rfl) (by kernel_rfl) (fun _ _ _ h => h) (Or.inl ⟨by rfl, fun w hSw => ?_⟩) hHeld ?_
  · (try dsimp only at hSw)
    unfold oC1
    go_simp
  try simp only [oC1, Act.put, List.setIfInBounds_toArray, List.set_cons_zero, List.set_cons_succ]
  refine wpAnyH_take (i := 4) (oi := oC4) (v := .func (.func 30) #[] #[.pointer (some ⟨w.heap.size + 1, 0, none⟩)]) rfl (by kernel_rfl) (by kernel_rfl) (by kernel_rfl) (fun _ _ _ h => h) (Or.inl ⟨by rfl, fun w hSw => ?_⟩) hHeld ?_
  · (try dsimp only at hSw)
    unfold oC4
    go_simp
  try simp only [oC4, Act.put, List.setIfInBounds_toArray, List.set_cons_zero, List.set_cons_succ]
  refine wpAnyH_ready (rs := [2, 10]) (by kernel_rfl) (by simp) ?_
  refine AllReadyH.cons (o := oC2) rfl (fun K hK => ?_) (AllReadyH.cons (o := oC10) rfl (fun K hK => ?_) AllReadyH.nil)
  · unfold oC2
    go_simp
    refine hK.out _ _ (unhide SB).hold (fun hHeld => ?_)
    clear hK K
    try simp only [oC2, Act.put, List.setIfInBounds_toArray, List.set_cons_zero, List.set_cons_succ]
    refine wpAnyH_ready (rs := [3, 10]) (by kernel_rfl) (by simp) ?_
    refine AllReadyH.cons (o := oC3) rfl (fun K hK => ?_) (AllReadyH.cons (o := oC10) rfl (fun K hK => ?_) AllReadyH.nil)
    · unfold oC3
      go_simp
      refine (iNumbers _ (w0.heap.size) 1 1 [no] b1 rfl (by omega) (by first | (simp; done) | (simp; omega)) (at_new w0.drew [no] _ rfl rfl) (unhide H1)).mono ?_
      rintro e w2 ⟨rfl, bb⟩
      have S2 := hide ((unhide SB).step bb)
      have z2 : w0.heap.size ≤ w2.heap.size := (by have := bb.size; simp at this; omega)
      have K6 := (unhide S2).hold
      clear bb
      go_wp2_with fail
      refine hK.out _ _ K6 (fun hHeld => ?_)
      clear hK K
      try simp only [oC3, Act.put, List.setIfInBounds_toArray, List.set_cons_zero, List.set_cons_succ]
      refine wpAnyH_ready (rs := [5, 10]) (by kernel_rfl) (by simp) ?_
      refine AllReadyH.cons (o := oC5) rfl (fun K hK => ?_) (AllReadyH.cons (o := oC10) rfl (fun K hK => ?_) AllReadyH.nil)
      · unfold oC5
        go_simp
        refine (iCmdW _ x b1 (NoOk no) 30 _ (EndP x.b no 0 0) (unhide S2).r (unhide HT) (fun _ _ => rfl) ((unhide HF) _ (unhide S2) (by first | exact z2 | (simp; omega)))).mono ?_
        intro e w3 hA
        obtain ⟨a0, a1, a2, a3, a4, n0, n1, n2, n3, n4, j0, j1, j2, j3, j4, l, t, c, rfl, fin, bb⟩ := fin_of hA
        have S3 := hide ((unhide S2).step bb)
        have FN := hide (fin.rebase (base' := w.heap.size) (by first | omega | (simp; omega)))
        have z3 : w2.heap.size ≤ w3.heap.size := (by have := bb.size; first | exact this | (simp at this; omega))
        have K7 := (unhide S3).hold
        clear bb hA fin
        go_wp2_with fail
        refine hK.out _ _ K7 (fun hHeld => ?_)
        clear hK K
        try simp only [oC5, Act.put, List.setIfInBounds_toArray, List.set_cons_zero, List.set_cons_succ]
        refine wpAnyH_take (i := 6) (oi := oC6) (v := .tuple #[.agg #[.slice a0 n0 j0, .slice a1 n1 j1, .slice a2 n2 j2, .slice a3 n3 j3, .slice a4 n4 j4, .int .i64 l], .int .i64 t, .int .i64 c]) rfl (by kernel_rfl) (by kernel_rfl) (by kernel_rfl) (fun _ _ _ h => h) (Or.inl ⟨by rfl, fun w hSw => ?_⟩) hHeld ?_
        · (try dsimp only at hSw)
          unfold oC6
          go_simp
        try simp only [oC6, Act.put, List.setIfInBounds_toArray, List.set_cons_zero, List.set_cons_succ]
        refine wpAnyH_take (i := 7) (oi := oC7) (v := .agg #[.slice a0 n0 j0, .slice a1 n1 j1, .slice a2 n2 j2, .slice a3 n3 j3, .slice a4 n4 j4, .int .i64 l]) rfl (by kernel_rfl) (by kernel_rfl) (by kernel_rfl) (fun _ _ _ h => h) (Or.inl ⟨by rfl, fun w hSw => ?_⟩) hHeld ?_
        · (try dsimp only at hSw)
          unfold oC7
          go_simp
        try simp only [oC7, Act.put, List.setIfInBounds_toArray, List.set_cons_zero, List.set_cons_succ]
        refine wpAnyH_take (i := 8) (oi := oC8) (v := .int .i64 t) rfl (by kernel_rfl) (by kernel_rfl) (by kernel_rfl) (fun _ _ _ h => h) (Or.inl ⟨by rfl, fun w hSw => ?_⟩) hHeld ?_
        · (try dsimp only at hSw)
          unfold oC8
          go_simp
        try simp only [oC8, Act.put, List.setIfInBounds_toArray, List.set_cons_zero, List.set_cons_succ]
        refine wpAnyH_take (i := 9) (oi := oC9) (v := .int .i64 c) rfl (by kernel_rfl) (by kernel_rfl) (by kernel_rfl) (fun _ _ _ h => h) (Or.inl ⟨by rfl, fun w hSw => ?_⟩) hHeld ?_
        · (try dsimp only at hSw)
          unfold oC9
          go_simp
        try simp only [oC9, Act.put, List.setIfInBounds_toArray, List.set_cons_zero, List.set_cons_succ]
        refine wpAnyH_ready (rs := [10]) (by kernel_rfl) (by simp) ?_
        refine AllReadyH.cons (o := oC10) rfl (fun K hK => ?_) AllReadyH.nil
        unfold oC10
        go_simp
        refine hK.out _ _ ((unhide S3).step (one_more w3 _)).hold (fun hHeld => ?_)
        clear hK K
        try simp only [oC10, Act.put, List.setIfInBounds_toArray, List.set_cons_zero, List.set_cons_succ]
        refine wpAnyH_ready (rs := [11]) (by kernel_rfl) (by simp) ?_
        refine AllReadyH.cons (o := oC11) rfl (fun K hK => ?_) AllReadyH.nil
        unfold oC11
        go_simp
        refine hK.out _ _ ((unhide S3).step (one_more w3 _)).hold (fun hHeld => ?_)
        clear hK K
        try simp only [oC11, Act.put, List.setIfInBounds_toArray, List.set_cons_zero, List.set_cons_succ]
        refine wpAnyH_take (i := 12) (oi := oC12) (v := .int .i64 t) rfl (by kernel_rfl) (by kernel_rfl) (by kernel_rfl) (fun _ _ _ h => h) (Or.inl ⟨by rfl, fun w hSw => ?_⟩) hHeld ?_
        · (try dsimp only at hSw)
          unfold oC12
          go_simp
        try simp only [oC12, Act.put, List.setIfInBounds_toArray, List.set_cons_zero, List.set_cons_succ]
        refine wpAnyH_take (i := 13) (oi := oC13) (v := .int .i64 c) rfl (by kernel_rfl) (by kernel_rfl) (by kernel_rfl) (fun _ _ _ h => h) (Or.inl ⟨by rfl, fun w hSw => ?_⟩) hHeld ?_
        · (try dsimp only at hSw)
          unfold oC13
          go_simp
        try simp only [oC13, Act.put, List.setIfInBounds_toArray, List.set_cons_zero, List.set_cons_succ]
        refine wpAnyH_done (by kernel_rfl) ?_ _
        refine to_wc (fun W => Box W w.heap.size (w.heap.size + 1 + 1) (.slice none 0 0) (.slice none 0 0) (.slice none 0 0) (.slice none 0 0) (.slice none 0 0) (.int .i64 0) ∧ Box W w.heap.size (w3.heap.size) (.slice a0 n0 j0) (.slice a1 n1 j1) (.slice a2 n2 j2) (.slice a3 n3 j3) (.slice a4 n4 j4) (.int .i64 l) ∧ Fin ((NoOk no) ∧ Ok x.b) x.b (EndP x.b no 0 0) w.heap.size a0 a1 a2 a3 a4 n0 n1 n2 n3 n4 j0 j1 j2 j3 j4 l t c W ∧ Below w.heap.size w W) ⟨World.ownsRow.alloc (unhide S3).v _, Box.made _ _ _ _ _ _ (unhide S3).b.size rfl, (unhide FN).alloc _, (unhide S3).b.alloc (unhide S3).b.size _⟩ ?_
        clear HF HT
        rintro W ⟨R', X', FI', B'⟩
        have R := hide R'
        have XN := hide X'
        have FI := hide FI'
        have B := hide B'
        clear R' X' FI' B'

        have r0 := (unhide R).c0
        have r1 := (unhide R).c1
        have r2 := (unhide R).c2
        have r3 := (unhide R).c3
        have r4 := (unhide R).c4
        have r5 := (unhide R).c5
        have f0 := (unhide R).free 0
        have f1 := (unhide R).free 1
        have f2 := (unhide R).free 2
        have f3 := (unhide R).free 3
        have f4 := (unhide R).free 4
        have f5 := (unhide R).free 5
        have x0 := (unhide XN).c0
        have x1 := (unhide XN).c1
        have x2 := (unhide XN).c2
        have x3 := (unhide XN).c3
        have x4 := (unhide XN).c4
        have x5 := (unhide XN).c5
        go_wp2
        refine to_wb (fun W => Box W w.heap.size (w.heap.size + 1 + 1) (.slice a0 n0 j0) (.slice a1 n1 j1) (.slice a2 n2 j2) (.slice a3 n3 j3) (.slice a4 n4 j4) (.int .i64 l) ∧ Fin ((NoOk no) ∧ Ok x.b) x.b (EndP x.b no 0 0) w.heap.size a0 a1 a2 a3 a4 n0 n1 n2 n3 n4 j0 j1 j2 j3 j4 l t c W ∧ Below w.heap.size w W) ⟨(box_six (unhide R) _ _ _ _ _ _).1, (unhide FI).six (unhide R) _ _ _ _ _ _, six (unhide B) (by omega) _ _ _ _ _ _⟩ ?_
        rintro W' ⟨X, FJ, B2⟩
        have g0 := X.c0
        have g1 := X.c1
        have g2 := X.c2
        have g3 := X.c3
        have g4 := X.c4
        have g5 := X.c5
        exact bodyPost_ret (v := .tuple #[.agg #[.slice a0 n0 j0, .slice a1 n1 j1, .slice a2 n2 j2, .slice a3 n3 j3, .slice a4 n4 j4, .int .i64 l], .int .i64 c]) (by simp [results, Tryz.results8, go_sem, g0, g1, g2, g3, g4, g5]) rfl (by
            have A := fin_ansB (w := w) (Q := IsCancel x.b no) FJ (Nat.le_refl _) B2 (fun b' t h => cancel_done h) (fun b' t c h hc => cancel_not h hc)
            rcases A with ⟨a, a2, a3⟩ | ⟨a, a2⟩
            · exact .inl ⟨fun hh => a ⟨hh.2, hh.1⟩, a2, a3⟩
            · exact .inr ⟨⟨a.2, a.1⟩, a2⟩)
      · unfold oC10
        go_simp
        have S2a := hide ((unhide S2).step (one_more w2 (.cells #[.slice none 0 0, .slice none 0 0, .slice none 0 0, .slice none 0 0, .slice none 0 0, .int .i64 0] 36)))
        have V0 := hide (Box.made (w := w2) (base := w.heap.size) (g := w2.heap.size) (.slice none 0 0) (.slice none 0 0) (.slice none 0 0) (.slice none 0 0) (.slice none 0 0) (.int .i64 0) (by omega) rfl)
        refine hK.out _ _ (unhide S2a).hold (fun hHeld => ?_)
        clear hK K
        try simp only [oC10, Act.put, List.setIfInBounds_toArray, List.set_cons_zero, List.set_cons_succ]
        refine wpAnyH_ready (rs := [5]) (by kernel_rfl) (by simp) ?_
        refine AllReadyH.cons (o := oC5) rfl (fun K hK => ?_) AllReadyH.nil
        unfold oC5
        go_simp
        refine (iCmdW _ x b1 (NoOk no) 30 _ (EndP x.b no 0 0) (unhide S2a).r (unhide HT) (fun _ _ => rfl) ((unhide HF) _ (unhide S2a) (by first | exact z2 | (simp; omega)))).mono ?_
        intro e w3 hA
        obtain ⟨a0, a1, a2, a3, a4, n0, n1, n2, n3, n4, j0, j1, j2, j3, j4, l, t, c, rfl, fin, bb⟩ := fin_of hA
        have S3 := hide ((unhide S2a).step bb)
        have FN := hide (fin.rebase (base' := w.heap.size) (by first | omega | (simp; omega)))
        have z3 : w2.heap.size ≤ w3.heap.size := (by have := bb.size; first | exact this | (simp at this; omega))
        have K7 := (unhide S3).hold
        have V0 := hide (Box.below (unhide V0) bb (unhide V0).lt.2)
        have zv := (unhide V0).lt
        have K8 := (unhide S3).holdG (box_six (unhide V0) (.slice a0 n0 j0) (.slice a1 n1 j1) (.slice a2 n2 j2) (.slice a3 n3 j3) (.slice a4 n4 j4) (.int .i64 l)).2 (by omega)
        have k0 := (unhide V0).c0
        have k1 := (unhide V0).c1
        have k2 := (unhide V0).c2
        have k3 := (unhide V0).c3
        have k4 := (unhide V0).c4
        have k5 := (unhide V0).c5
        have v0 := (unhide V0).free 0
        have v1 := (unhide V0).free 1
        have v2 := (unhide V0).free 2
        have v3 := (unhide V0).free 3
        have v4 := (unhide V0).free 4
        have v5 := (unhide V0).free 5
        clear bb hA fin
        go_wp2_with fail
        refine hK.out _ _ K7 (fun hHeld => ?_)
        clear hK K
        try simp only [oC5, Act.put, List.setIfInBounds_toArray, List.set_cons_zero, List.set_cons_succ]
        refine wpAnyH_take (i := 6) (oi := oC6) (v := .tuple #[.agg #[.slice a0 n0 j0, .slice a1 n1 j1, .slice a2 n2 j2, .slice a3 n3 j3, .slice a4 n4 j4, .int .i64 l], .int .i64 t, .int .i64 c]) rfl (by kernel_rfl) (by kernel_rfl) (by kernel_rfl) (fun _ _ _ h => h) (Or.inl ⟨by rfl, fun w hSw => ?_⟩) hHeld ?_
        · (try dsimp only at hSw)
          unfold oC6
          go_simp
        try simp only [oC6, Act.put, List.setIfInBounds_toArray, List.set_cons_zero, List.set_cons_succ]
        refine wpAnyH_take (i := 7) (oi := oC7) (v := .agg #[.slice a0 n0 j0, .slice a1 n1 j1, .slice a2 n2 j2, .slice a3 n3 j3, .slice a4 n4 j4, .int .i64 l]) rfl (by kernel_rfl) (by kernel_rfl) (by kernel_rfl) (fun _ _ _ h => h) (Or.inl ⟨by rfl, fun w hSw => ?_⟩) hHeld ?_
        · (try dsimp only at hSw)
          unfold oC7
          go_simp
        try simp only [oC7, Act.put, List.setIfInBounds_toArray, List.set_cons_zero, List.set_cons_succ]
        refine wpAnyH_take (i := 8) (oi := oC8) (v := .int .i64 t) rfl (by kernel_rfl) (by kernel_rfl) (by kernel_rfl) (fun _ _ _ h => h) (Or.inl ⟨by rfl, fun w hSw => ?_⟩) hHeld ?_
        · (try dsimp only at hSw)
          unfold oC8
          go_simp
        try simp only [oC8, Act.put, List.setIfInBounds_toArray, List.set_cons_zero, List.set_cons_succ]
        refine wpAnyH_take (i := 9) (oi := oC9) (v := .int .i64 c) rfl (by kernel_rfl) (by kernel_rfl) (by kernel_rfl) (fun _ _ _ h => h) (Or.inl ⟨by rfl, fun w hSw => ?_⟩) hHeld ?_
        · (try dsimp only at hSw)
          unfold oC9
          go_simp
        try simp only [oC9, Act.put, List.setIfInBounds_toArray, List.set_cons_zero, List.set_cons_succ]
        refine wpAnyH_ready (rs := [11]) (by kernel_rfl) (by simp) ?_
        refine AllReadyH.cons (o := oC11) rfl (fun K hK => ?_) AllReadyH.nil
        unfold oC11
        go_simp
        refine hK.out _ _ K8 (fun hHeld => ?_)
        clear hK K
        try simp only [oC11, Act.put, List.setIfInBounds_toArray, List.set_cons_zero, List.set_cons_succ]
        refine wpAnyH_take (i := 12) (oi := oC12) (v := .int .i64 t) rfl (by kernel_rfl) (by kernel_rfl) (by kernel_rfl) (fun _ _ _ h => h) (Or.inl ⟨by rfl, fun w hSw => ?_⟩) hHeld ?_
        · (try dsimp only at hSw)
          unfold oC12
          go_simp
        try simp only [oC12, Act.put, List.setIfInBounds_toArray, List.set_cons_zero, List.set_cons_succ]
        refine wpAnyH_take (i := 13) (oi := oC13) (v := .int .i64 c) rfl (by kernel_rfl) (by kernel_rfl) (by kernel_rfl) (fun _ _ _ h => h) (Or.inl ⟨by rfl, fun w hSw => ?_⟩) hHeld ?_
        · (try dsimp only at hSw)
          unfold oC13
          go_simp
        try simp only [oC13, Act.put, List.setIfInBounds_toArray, List.set_cons_zero, List.set_cons_succ]
        refine wpAnyH_done (by kernel_rfl) ?_ _
        refine to_wc (fun W => Box W w.heap.size (w.heap.size + 1 + 1) (.slice none 0 0) (.slice none 0 0) (.slice none 0 0) (.slice none 0 0) (.slice none 0 0) (.int .i64 0) ∧ Box W w.heap.size (w2.heap.size) (.slice a0 n0 j0) (.slice a1 n1 j1) (.slice a2 n2 j2) (.slice a3 n3 j3) (.slice a4 n4 j4) (.int .i64 l) ∧ Fin ((NoOk no) ∧ Ok x.b) x.b (EndP x.b no 0 0) w.heap.size a0 a1 a2 a3 a4 n0 n1 n2 n3 n4 j0 j1 j2 j3 j4 l t c W ∧ Below w.heap.size w W) ⟨(unhide S3).v.kept (box_six (unhide V0) _ _ _ _ _ _).2 (fun e => by injection e; omega), (box_six (unhide V0) _ _ _ _ _ _).1, (unhide FN).six (unhide V0) _ _ _ _ _ _, six (unhide S3).b (by omega) _ _ _ _ _ _⟩ ?_
        clear HF HT
        rintro W ⟨R', X', FI', B'⟩
        have R := hide R'
        have XN := hide X'
        have FI := hide FI'
        have B := hide B'
        clear R' X' FI' B'
        clear k0 k1 k2 k3 k4 k5 v0 v1 v2 v3 v4 v5 V0
        have r0 := (unhide R).c0
        have r1 := (unhide R).c1
        have r2 := (unhide R).c2
        have r3 := (unhide R).c3
        have r4 := (unhide R).c4
        have r5 := (unhide R).c5
        have f0 := (unhide R).free 0
        have f1 := (unhide R).free 1
        have f2 := (unhide R).free 2
        have f3 := (unhide R).free 3
        have f4 := (unhide R).free 4
        have f5 := (unhide R).free 5
        have x0 := (unhide XN).c0
        have x1 := (unhide XN).c1
        have x2 := (unhide XN).c2
        have x3 := (unhide XN).c3
        have x4 := (unhide XN).c4
        have x5 := (unhide XN).c5
        go_wp2
        refine to_wb (fun W => Box W w.heap.size (w.heap.size + 1 + 1) (.slice a0 n0 j0) (.slice a1 n1 j1) (.slice a2 n2 j2) (.slice a3 n3 j3) (.slice a4 n4 j4) (.int .i64 l) ∧ Fin ((NoOk no) ∧ Ok x.b) x.b (EndP x.b no 0 0) w.heap.size a0 a1 a2 a3 a4 n0 n1 n2 n3 n4 j0 j1 j2 j3 j4 l t c W ∧ Below w.heap.size w W) ⟨(box_six (unhide R) _ _ _ _ _ _).1, (unhide FI).six (unhide R) _ _ _ _ _ _, six (unhide B) (by omega) _ _ _ _ _ _⟩ ?_
        rintro W' ⟨X, FJ, B2⟩
        have g0 := X.c0
        have g1 := X.c1
        have g2 := X.c2
        have g3 := X.c3
        have g4 := X.c4
        have g5 := X.c5
        exact bodyPost_ret (v := .tuple #[.agg #[.slice a0 n0 j0, .slice a1 n1 j1, .slice a2 n2 j2, .slice a3 n3 j3, .slice a4 n4 j4, .int .i64 l], .int .i64 c]) (by simp [results, Tryz.results8, go_sem, g0, g1, g2, g3, g4, g5]) rfl (by
            have A := fin_ansB (w := w) (Q := IsCancel x.b no) FJ (Nat.le_refl _) B2 (fun b' t h => cancel_done h) (fun b' t c h hc => cancel_not h hc)
            rcases A with ⟨a, a2, a3⟩ | ⟨a, a2⟩
            · exact .inl ⟨fun hh => a ⟨hh.2, hh.1⟩, a2, a3⟩
            · exact .inr ⟨⟨a.2, a.1⟩, a2⟩)
    · unfold oC10
      go_simp
      have SBA := hide ((unhide SB).step (one_more (w0.drew.alloc (.cells #[.int .i64 no] 3)) (.cells #[.slice none 0 0, .slice none 0 0, .slice none 0 0, .slice none 0 0, .slice none 0 0, .int .i64 0] 36)))
      have V0 := hide (Box.made (w := w0.drew.alloc (.cells #[.int .i64 no] 3)) (base := w.heap.size) (g := w0.heap.size + 1) (.slice none 0 0) (.slice none 0 0) (.slice none 0 0) (.slice none 0 0) (.slice none 0 0) (.int .i64 0) (by simp; omega) (by simp))
      refine hK.out _ _ (unhide SBA).hold (fun hHeld => ?_)
      clear hK K
      try simp only [oC10, Act.put, List.setIfInBounds_toArray, List.set_cons_zero, List.set_cons_succ]
      refine wpAnyH_ready (rs := [3]) (by kernel_rfl) (by simp) ?_
      refine AllReadyH.cons (o := oC3) rfl (fun K hK => ?_) AllReadyH.nil
      unfold oC3
      go_simp
      refine (iNumbers _ (w0.heap.size) 1 1 [no] b1 rfl (by omega) (by first | (simp; done) | (simp; omega)) ((at_new w0.drew [no] _ rfl rfl).below (one_more _ _) (by simp)) (unhide H1)).mono ?_
      rintro e w2 ⟨rfl, bb⟩
      have S2 := hide ((unhide SBA).step bb)
      have z2 : w0.heap.size ≤ w2.heap.size := (by have := bb.size; simp at this; omega)
      have K6 := (unhide S2).hold
      have V0 := hide (Box.below (unhide V0) bb (unhide V0).lt.2)
      clear bb
      go_wp2_with fail
      refine hK.out _ _ K6 (fun hHeld => ?_)
      clear hK K
      try simp only [oC3, Act.put, List.setIfInBounds_toArray, List.set_cons_zero, List.set_cons_succ]
      refine wpAnyH_ready (rs := [5]) (by kernel_rfl) (by simp) ?_
      refine AllReadyH.cons (o := oC5) rfl (fun K hK => ?_) AllReadyH.nil
      unfold oC5
      go_simp
      refine (iCmdW _ x b1 (NoOk no) 30 _ (EndP x.b no 0 0) (unhide S2).r (unhide HT) (fun _ _ => rfl) ((unhide HF) _ (unhide S2) (by first | exact z2 | (simp; omega)))).mono ?_
      intro e w3 hA
      obtain ⟨a0, a1, a2, a3, a4, n0, n1, n2, n3, n4, j0, j1, j2, j3, j4, l, t, c, rfl, fin, bb⟩ := fin_of hA
      have S3 := hide ((unhide S2).step bb)
      have FN := hide (fin.rebase (base' := w.heap.size) (by first | omega | (simp; omega)))
      have z3 : w2.heap.size ≤ w3.heap.size := (by have := bb.size; first | exact this | (simp at this; omega))
      have K7 := (unhide S3).hold
      have V0 := hide (Box.below (unhide V0) bb (unhide V0).lt.2)
      have zv := (unhide V0).lt
      have K8 := (unhide S3).holdG (box_six (unhide V0) (.slice a0 n0 j0) (.slice a1 n1 j1) (.slice a2 n2 j2) (.slice a3 n3 j3) (.slice a4 n4 j4) (.int .i64 l)).2 (by omega)
      have k0 := (unhide V0).c0
      have k1 := (unhide V0).c1
      have k2 := (unhide V0).c2
      have k3 := (unhide V0).c3
      have k4 := (unhide V0).c4
      have k5 := (unhide V0).c5
      have v0 := (unhide V0).free 0
      have v1 := (unhide V0).free 1
      have v2 := (unhide V0).free 2
      have v3 := (unhide V0).free 3
      have v4 := (unhide V0).free 4
      have v5 := (unhide V0).free 5
      clear bb hA fin
      go_wp2_with fail
      refine hK.out _ _ K7 (fun hHeld => ?_)
      clear hK K
      try simp only [oC5, Act.put, List.setIfInBounds_toArray, List.set_cons_zero, List.set_cons_succ]
      refine wpAnyH_take (i := 6) (oi := oC6) (v := .tuple #[.agg #[.slice a0 n0 j0, .slice a1 n1 j1, .slice a2 n2 j2, .slice a3 n3 j3, .slice a4 n4 j4, .int .i64 l], .int .i64 t, .int .i64 c]) rfl (by kernel_rfl) (by kernel_rfl) (by kernel_rfl) (fun _ _ _ h => h) (Or.inl ⟨by rfl, fun w hSw => ?_⟩) hHeld ?_
      · (try dsimp only at hSw)
        unfold oC6
        go_simp
      try simp only [oC6, Act.put, List.setIfInBounds_toArray, List.set_cons_zero, List.set_cons_succ]
      refine wpAnyH_take (i := 7) (oi := oC7) (v := .agg #[.slice a0 n0 j0, .slice a1 n1 j1, .slice a2 n2 j2, .slice a3 n3 j3, .slice a4 n4 j4, .int .i64 l]) rfl (by kernel_rfl) (by kernel_rfl) (by kernel_rfl) (fun _ _ _ h => h) (Or.inl ⟨by rfl, fun w hSw => ?_⟩) hHeld ?_
      · (try dsimp only at hSw)
        unfold oC7
        go_simp
      try simp only [oC7, Act.put, List.setIfInBounds_toArray, List.set_cons_zero, List.set_cons_succ]
      refine wpAnyH_take (i := 8) (oi := oC8) (v := .int .i64 t) rfl (by kernel_rfl) (by kernel_rfl) (by kernel_rfl) (fun _ _ _ h => h) (Or.inl ⟨by rfl, fun w hSw => ?_⟩) hHeld ?_
      · (try dsimp only at hSw)
        unfold oC8
        go_simp
      try simp only [oC8, Act.put, List.setIfInBounds_toArray, List.set_cons_zero, List.set_cons_succ]
      refine wpAnyH_take (i := 9) (oi := oC9) (v := .int .i64 c) rfl (by kernel_rfl) (by kernel_rfl) (by kernel_rfl) (fun _ _ _ h => h) (Or.inl ⟨by rfl, fun w hSw => ?_⟩) hHeld ?_
      · (try dsimp only at hSw)
        unfold oC9
        go_simp
      try simp only [oC9, Act.put, List.setIfInBounds_toArray, List.set_cons_zero, List.set_cons_succ]
      refine wpAnyH_ready (rs := [11]) (by kernel_rfl) (by simp) ?_
      refine AllReadyH.cons (o := oC11) rfl (fun K hK => ?_) AllReadyH.nil
      unfold oC11
      go_simp
      refine hK.out _ _ K8 (fun hHeld => ?_)
      clear hK K
      try simp only [oC11, Act.put, List.setIfInBounds_toArray, List.set_cons_zero, List.set_cons_succ]
      refine wpAnyH_take (i := 12) (oi := oC12) (v := .int .i64 t) rfl (by kernel_rfl) (by kernel_rfl) (by kernel_rfl) (fun _ _ _ h => h) (Or.inl ⟨by rfl, fun w hSw => ?_⟩) hHeld ?_
      · (try dsimp only at hSw)
        unfold oC12
        go_simp
      try simp only [oC12, Act.put, List.setIfInBounds_toArray, List.set_cons_zero, List.set_cons_succ]
      refine wpAnyH_take (i := 13) (oi := oC13) (v := .int .i64 c) rfl (by kernel_rfl) (by kernel_rfl) (by kernel_rfl) (fun _ _ _ h => h) (Or.inl ⟨by rfl, fun w hSw => ?_⟩) hHeld ?_
      · (try dsimp only at hSw)
        unfold oC13
        go_simp
      try simp only [oC13, Act.put, List.setIfInBounds_toArray, List.set_cons_zero, List.set_cons_succ]
      refine wpAnyH_done (by kernel_rfl) ?_ _
      refine to_wc (fun W => Box W w.heap.size (w.heap.size + 1 + 1) (.slice none 0 0) (.slice none 0 0) (.slice none 0 0) (.slice none 0 0) (.slice none 0 0) (.int .i64 0) ∧ Box W w.heap.size (w0.heap.size + 1) (.slice a0 n0 j0) (.slice a1 n1 j1) (.slice a2 n2 j2) (.slice a3 n3 j3) (.slice a4 n4 j4) (.int .i64 l) ∧ Fin ((NoOk no) ∧ Ok x.b) x.b (EndP x.b no 0 0) w.heap.size a0 a1 a2 a3 a4 n0 n1 n2 n3 n4 j0 j1 j2 j3 j4 l t c W ∧ Below w.heap.size w W) ⟨(unhide S3).v.kept (box_six (unhide V0) _ _ _ _ _ _).2 (fun e => by injection e; omega), (box_six (unhide V0) _ _ _ _ _ _).1, (unhide FN).six (unhide V0) _ _ _ _ _ _, six (unhide S3).b (by omega) _ _ _ _ _ _⟩ ?_
      clear HF HT
      rintro W ⟨R', X', FI', B'⟩
      have R := hide R'
      have XN := hide X'
      have FI := hide FI'
      have B := hide B'
      clear R' X' FI' B'
      clear k0 k1 k2 k3 k4 k5 v0 v1 v2 v3 v4 v5 V0
      have r0 := (unhide R).c0
      have r1 := (unhide R).c1
      have r2 := (unhide R).c2
      have r3 := (unhide R).c3
      have r4 := (unhide R).c4
      have r5 := (unhide R).c5
      have f0 := (unhide R).free 0
      have f1 := (unhide R).free 1
      have f2 := (unhide R).free 2
      have f3 := (unhide R).free 3
      have f4 := (unhide R).free 4
      have f5 := (unhide R).free 5
      have x0 := (unhide XN).c0
      have x1 := (unhide XN).c1
      have x2 := (unhide XN).c2
      have x3 := (unhide XN).c3
      have x4 := (unhide XN).c4
      have x5 := (unhide XN).c5
      go_wp2
      refine to_wb (fun W => Box W w.heap.size (w.heap.size + 1 + 1) (.slice a0 n0 j0) (.slice a1 n1 j1) (.slice a2 n2 j2) (.slice a3 n3 j3) (.slice a4 n4 j4) (.int .i64 l) ∧ Fin ((NoOk no) ∧ Ok x.b) x.b (EndP x.b no 0 0) w.heap.size a0 a1 a2 a3 a4 n0 n1 n2 n3 n4 j0 j1 j2 j3 j4 l t c W ∧ Below w.heap.size w W) ⟨(box_six (unhide R) _ _ _ _ _ _).1, (unhide FI).six (unhide R) _ _ _ _ _ _, six (unhide B) (by omega) _ _ _ _ _ _⟩ ?_
      rintro W' ⟨X, FJ, B2⟩
      have g0 := X.c0
      have g1 := X.c1
      have g2 := X.c2
      have g3 := X.c3
      have g4 := X.c4
      have g5 := X.c5
      exact bodyPost_ret (v := .tuple #[.agg #[.slice a0 n0 j0, .slice a1 n1 j1, .slice a2 n2 j2, .slice a3 n3 j3, .slice a4 n4 j4, .int .i64 l], .int .i64 c]) (by simp [results, Tryz.results8, go_sem, g0, g1, g2, g3, g4, g5]) rfl (by
          have A := fin_ansB (w := w) (Q := IsCancel x.b no) FJ (Nat.le_refl _) B2 (fun b' t h => cancel_done h) (fun b' t c h hc => cancel_not h hc)
          rcases A with ⟨a, a2, a3⟩ | ⟨a, a2⟩
          · exact .inl ⟨fun hh => a ⟨hh.2, hh.1⟩, a2, a3⟩
          · exact .inr ⟨⟨a.2, a.1⟩, a2⟩)
  · unfold oC10
    go_simp
    have SA := hide (((unhide S0).step (Below.refl _ _).drew).step (one_more w0.drew (.cells #[.slice none 0 0, .slice none 0 0, .slice none 0 0, .slice none 0 0, .slice none 0 0, .int .i64 0] 36)))
    have V0 := hide (Box.made (w := w0.drew) (base := w.heap.size) (g := w0.heap.size) (.slice none 0 0) (.slice none 0 0) (.slice none 0 0) (.slice none 0 0) (.slice none 0 0) (.int .i64 0) (by simp; omega) rfl)
    refine hK.out _ _ (unhide SA).hold (fun hHeld => ?_)
    clear hK K
    try simp only [oC10, Act.put, List.setIfInBounds_toArray, List.set_cons_zero, List.set_cons_succ]
    refine wpAnyH_ready (rs := [2]) (by kernel_rfl) (by simp) ?_
    refine AllReadyH.cons (o := oC2) rfl (fun K hK => ?_) AllReadyH.nil
    unfold oC2
    go_simp
    have SAB := hide ((unhide SA).step (one_more (w0.drew.alloc (.cells #[.slice none 0 0, .slice none 0 0, .slice none 0 0, .slice none 0 0, .slice none 0 0, .int .i64 0] 36)) (.cells #[.int .i64 no] 3)))
    have V0 := hide (Box.below (unhide V0) (one_more _ (.cells #[.int .i64 no] 3)) (unhide V0).lt.2)
    refine hK.out _ _ (unhide SAB).hold (fun hHeld => ?_)
    clear hK K
    try simp only [oC2, Act.put, List.setIfInBounds_toArray, List.set_cons_zero, List.set_cons_succ]
    refine wpAnyH_ready (rs := [3]) (by kernel_rfl) (by simp) ?_
    refine AllReadyH.cons (o := oC3) rfl (fun K hK => ?_) AllReadyH.nil
    unfold oC3
    go_simp
    refine (iNumbers _ (w0.heap.size + 1) 1 1 [no] b1 rfl (by omega) (by first | (simp; done) | (simp; omega)) (at_new (w0.drew.alloc (.cells #[.slice none 0 0, .slice none 0 0, .slice none 0 0, .slice none 0 0, .slice none 0 0, .int .i64 0] 36)) [no] _ (by simp) rfl) (unhide H1)).mono ?_
    rintro e w2 ⟨rfl, bb⟩
    have S2 := hide ((unhide SAB).step bb)
    have z2 : w0.heap.size ≤ w2.heap.size := (by have := bb.size; simp at this; omega)
    have K6 := (unhide S2).hold
    have V0 := hide (Box.below (unhide V0) bb (unhide V0).lt.2)
    clear bb
    go_wp2_with fail
    refine hK.out _ _ K6 (fun hHeld => ?_)
    clear hK K
    try simp only [oC3, Act.put, List.setIfInBounds_toArray, List.set_cons_zero, List.set_cons_succ]
    refine wpAnyH_ready (rs := [5]) (by kernel_rfl) (by simp) ?_
    refine AllReadyH.cons (o := oC5) rfl (fun K hK => ?_) AllReadyH.nil
    unfold oC5
    go_simp
    refine (iCmdW _ x b1 (NoOk no) 30 _ (EndP x.b no 0 0) (unhide S2).r (unhide HT) (fun _ _ => rfl) ((unhide HF) _ (unhide S2) (by first | exact z2 | (simp; omega)))).mono ?_
    intro e w3 hA
    obtain ⟨a0, a1, a2, a3, a4, n0, n1, n2, n3, n4, j0, j1, j2, j3, j4, l, t, c, rfl, fin, bb⟩ := fin_of hA
    have S3 := hide ((unhide S2).step bb)
    have FN := hide (fin.rebase (base' := w.heap.size) (by first | omega | (simp; omega)))
    have z3 : w2.heap.size ≤ w3.heap.size := (by have := bb.size; first | exact this | (simp at this; omega))
    have K7 := (unhide S3).hold
    have V0 := hide (Box.below (unhide V0) bb (unhide V0).lt.2)
    have zv := (unhide V0).lt
    have K8 := (unhide S3).holdG (box_six (unhide V0) (.slice a0 n0 j0) (.slice a1 n1 j1) (.slice a2 n2 j2) (.slice a3 n3 j3) (.slice a4 n4 j4) (.int .i64 l)).2 (by omega)
    have k0 := (unhide V0).c0
    have k1 := (unhide V0).c1
    have k2 := (unhide V0).c2
    have k3 := (unhide V0).c3
    have k4 := (unhide V0).c4
    have k5 := (unhide V0).c5
    have v0 := (unhide V0).free 0
    have v1 := (unhide V0).free 1
    have v2 := (unhide V0).free 2
    have v3 := (unhide V0).free 3
    have v4 := (unhide V0).free 4
    have v5 := (unhide V0).free 5
    clear bb hA fin
    go_wp2_with fail
    refine hK.out _ _ K7 (fun hHeld => ?_)
    clear hK K
    try simp only [oC5, Act.put, List.setIfInBounds_toArray, List.set_cons_zero, List.set_cons_succ]
    refine wpAnyH_take (i := 6) (oi := oC6) (v := .tuple #[.agg #[.slice a0 n0 j0, .slice a1 n1 j1, .slice a2 n2 j2, .slice a3 n3 j3, .slice a4 n4 j4, .int .i64 l], .int .i64 t, .int .i64 c]) rfl (by kernel_rfl) (by kernel_rfl) (by kernel_rfl) (fun _ _ _ h => h) (Or.inl ⟨by rfl, fun w hSw => ?_⟩) hHeld ?_
    · (try dsimp only at hSw)
      unfold oC6
      go_simp
    try simp only [oC6, Act.put, List.setIfInBounds_toArray, List.set_cons_zero, List.set_cons_succ]
    refine wpAnyH_take (i := 7) (oi := oC7) (v := .agg #[.slice a0 n0 j0, .slice a1 n1 j1, .slice a2 n2 j2, .slice a3 n3 j3, .slice a4 n4 j4, .int .i64 l]) rfl (by kernel_rfl) (by kernel_rfl) (by kernel_rfl) (fun _ _ _ h => h) (Or.inl ⟨by rfl, fun w hSw => ?_⟩) hHeld ?_
    · (try dsimp only at hSw)
      unfold oC7
      go_simp
    try simp only [oC7, Act.put, List.setIfInBounds_toArray, List.set_cons_zero, List.set_cons_succ]
    refine wpAnyH_take (i := 8) (oi := oC8) (v := .int .i64 t) rfl (by kernel_rfl) (by kernel_rfl) (by kernel_rfl) (fun _ _ _ h => h) (Or.inl ⟨by rfl, fun w hSw => ?_⟩) hHeld ?_
    · (try dsimp only at hSw)
      unfold oC8
      go_simp
    try simp only [oC8, Act.put, List.setIfInBounds_toArray, List.set_cons_zero, List.set_cons_succ]
    refine wpAnyH_take (i := 9) (oi := oC9) (v := .int .i64 c) rfl (by kernel_rfl) (by kernel_rfl) (by kernel_rfl) (fun _ _ _ h => h) (Or.inl ⟨by rfl, fun w hSw => ?_⟩) hHeld ?_
    · (try dsimp only at hSw)
      unfold oC9
      go_simp
    try simp only [oC9, Act.put, List.setIfInBounds_toArray, List.set_cons_zero, List.set_cons_succ]
    refine wpAnyH_ready (rs := [11]) (by kernel_rfl) (by simp) ?_
    refine AllReadyH.cons (o := oC11) rfl (fun K hK => ?_) AllReadyH.nil
    unfold oC11
    go_simp
    refine hK.out _ _ K8 (fun hHeld => ?_)
    clear hK K
    try simp only [oC11, Act.put, List.setIfInBounds_toArray, List.set_cons_zero, List.set_cons_succ]
    refine wpAnyH_take (i := 12) (oi := oC12) (v := .int .i64 t) rfl (by kernel_rfl) (by kernel_rfl) (by kernel_rfl) (fun _ _ _ h => h) (Or.inl ⟨by rfl, fun w hSw => ?_⟩) hHeld ?_
    · (try dsimp only at hSw)
      unfold oC12
      go_simp
    try simp only [oC12, Act.put, List.setIfInBounds_toArray, List.set_cons_zero, List.set_cons_succ]
    refine wpAnyH_take (i := 13) (oi := oC13) (v := .int .i64 c) rfl (by kernel_rfl) (by kernel_rfl) (by kernel_rfl) (fun _ _ _ h => h) (Or.inl ⟨by rfl, fun w hSw => ?_⟩) hHeld ?_
    · (try dsimp only at hSw)
      unfold oC13
      go_simp
    try simp only [oC13, Act.put, List.setIfInBounds_toArray, List.set_cons_zero, List.set_cons_succ]
    refine wpAnyH_done (by kernel_rfl) ?_ _
    refine to_wc (fun W => Box W w.heap.size (w.heap.size + 1 + 1) (.slice none 0 0) (.slice none 0 0) (.slice none 0 0) (.slice none 0 0) (.slice none 0 0) (.int .i64 0) ∧ Box W w.heap.size (w0.heap.size) (.slice a0 n0 j0) (.slice a1 n1 j1) (.slice a2 n2 j2) (.slice a3 n3 j3) (.slice a4 n4 j4) (.int .i64 l) ∧ Fin ((NoOk no) ∧ Ok x.b) x.b (EndP x.b no 0 0) w.heap.size a0 a1 a2 a3 a4 n0 n1 n2 n3 n4 j0 j1 j2 j3 j4 l t c W ∧ Below w.heap.size w W) ⟨(unhide S3).v.kept (box_six (unhide V0) _ _ _ _ _ _).2 (fun e => by injection e; omega), (box_six (unhide V0) _ _ _ _ _ _).1, (unhide FN).six (unhide V0) _ _ _ _ _ _, six (unhide S3).b (by omega) _ _ _ _ _ _⟩ ?_
    clear HF HT
    rintro W ⟨R', X', FI', B'⟩
    have R := hide R'
    have XN := hide X'
    have FI := hide FI'
    have B := hide B'
    clear R' X' FI' B'
    clear k0 k1 k2 k3 k4 k5 v0 v1 v2 v3 v4 v5 V0
    have r0 := (unhide R).c0
    have r1 := (unhide R).c1
    have r2 := (unhide R).c2
    have r3 := (unhide R).c3
    have r4 := (unhide R).c4
    have r5 := (unhide R).c5
    have f0 := (unhide R).free 0
    have f1 := (unhide R).free 1
    have f2 := (unhide R).free 2
    have f3 := (unhide R).free 3
    have f4 := (unhide R).free 4
    have f5 := (unhide R).free 5
    have x0 := (unhide XN).c0
    have x1 := (unhide XN).c1
    have x2 := (unhide XN).c2
    have x3 := (unhide XN).c3
    have x4 := (unhide XN).c4
    have x5 := (unhide XN).c5
    go_wp2
    refine to_wb (fun W => Box W w.heap.size (w.heap.size + 1 + 1) (.slice a0 n0 j0) (.slice a1 n1 j1) (.slice a2 n2 j2) (.slice a3 n3 j3) (.slice a4 n4 j4) (.int .i64 l) ∧ Fin ((NoOk no) ∧ Ok x.b) x.b (EndP x.b no 0 0) w.heap.size a0 a1 a2 a3 a4 n0 n1 n2 n3 n4 j0 j1 j2 j3 j4 l t c W ∧ Below w.heap.size w W) ⟨(box_six (unhide R) _ _ _ _ _ _).1, (unhide FI).six (unhide R) _ _ _ _ _ _, six (unhide B) (by omega) _ _ _ _ _ _⟩ ?_
    rintro W' ⟨X, FJ, B2⟩
    have g0 := X.c0
    have g1 := X.c1
    have g2 := X.c2
    have g3 := X.c3
    have g4 := X.c4
    have g5 := X.c5
    exact bodyPost_ret (v := .tuple #[.agg #[.slice a0 n0 j0, .slice a1 n1 j1, .slice a2 n2 j2, .slice a3 n3 j3, .slice a4 n4 j4, .int .i64 l], .int .i64 c]) (by simp [results, Tryz.results8, go_sem, g0, g1, g2, g3, g4, g5]) rfl (by
        have A := fin_ansB (w := w) (Q := IsCancel x.b no) FJ (Nat.le_refl _) B2 (fun b' t h => cancel_done h) (fun b' t c h hc => cancel_not h hc)
        rcases A with ⟨a, a2, a3⟩ | ⟨a, a2⟩
        · exact .inl ⟨fun hh => a ⟨hh.2, hh.1⟩, a2, a3⟩
        · exact .inr ⟨⟨a.2, a.1⟩, a2⟩)
end Go.Proofs.YtpdgljjndgikoaaGreat.CancelTellI
