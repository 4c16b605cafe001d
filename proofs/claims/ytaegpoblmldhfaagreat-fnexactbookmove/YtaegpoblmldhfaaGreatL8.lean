/- Texts of one proof, one behind the other: SCarry, SMove, IMove, MoveTellI. -/
import Derived.Test.YtaegpoblmldhfaaGreatRows
import Derived.Test.YtaegpoblmldhfaaGreatA1
import Derived.Test.YtaegpoblmldhfaaGreatA2
import Derived.Test.YtaegpoblmldhfaaGreatL3
import Derived.Test.YtaegpoblmldhfaaGreatL4
import Derived.Test.YtaegpoblmldhfaaGreatL5
import Derived.Test.YtaegpoblmldhfaaGreatL6
import Derived.Test.YtaegpoblmldhfaaGreatL7
/- What the model does to books: lots that are carried from one to another one. -/
namespace Go.Proofs.YtaegpoblmldhfaaGreat.SCarry
open Go.ChangeShapes Go.WideShapes Go.ChangeAt Go.RowKit BMem Bks ILists BHelp Ans SBk
open SIssue (six_alloc ow_six_alloc box_six_alloc to_wb off_box ne_true)
open IBalsFit (one_more)
open Lots (Says says_of NoOk)
open Bals (T3)
open Tup5 (T5)
set_option linter.unusedVariables false
set_option linter.unusedSimpArgs false

/-- Lots taken out, and one opened at their cost. -/
def Carried (b : Bk) (x y i q way : Int) (b' : Bk) (t c : Int) : Prop :=
  ∃ b2 k2 c2, IsTake b x i q way b2 k2 c2 ∧ ((c2 ≠ 0 ∧ t = 0 ∧ c = c2) ∨ (c2 = 0 ∧ IsOpen b2 y i q k2 b' c ∧ t = k2))

theorem taken_cases (bad short : Bool) : (bad = false ∧ short = false) ∨ (STake.takeD bad short ≠ 0 ∧ ¬ (bad = false ∧ short = false)) := by
  cases bad <;> cases short <;> simp [STake.takeD]

theorem says_false {p : Prop} (h : ¬ p) : Says false p := ⟨fun e => Bool.noConfusion e, fun r => absurd r h⟩

theorem taken_len {b : Bk} {a i q way : Int} (h : CanTake b a i q way) (s : Small b) : (takenL b a i q way).length ≤ 1048576 := by
  have := ITake.take_len (ps := b.ls) (R := takenL b a i q way) (a := a) (i := i) (q := q) (way := way) (bad := false) (short := false) (says_false (fun n => n ⟨h.1, h.2.1, h.2.2.1⟩)) (says_false h.2.2.2) rfl
  exact Nat.le_trans this (by omega)

theorem took_lot {b b2 : Bk} {a i q way k2 c2 : Int} (h : IsTake b a i q way b2 k2 c2) (s : Small b) : b2.lot = b.lot ∧ b2.ls.length ≤ 1048576 := by
  rcases h with ⟨h, rfl, _⟩ | ⟨_, rfl, _⟩
  · exact ⟨rfl, taken_len h s⟩
  · exact ⟨rfl, s.2.2.2.1⟩

set_option maxRecDepth 100000 in
set_option maxHeartbeats 4000000 in
theorem sCarry (w : World) (base : Nat) (x : Bx) (fa fb fi fq fk : Int) (O : Ow w base x) (hlot : 0 ≤ x.b.lot ∧ x.b.lot ≤ 1000000000) (s : Small x.b) :
    Calls Tryz.prog 79 #[.agg #[.slice (some ⟨x.ga, 0, none⟩) x.b.ac.length x.ca, .slice (some ⟨x.gi, 0, none⟩) x.b.ic.length x.ci, .slice (some ⟨x.gb, 0, none⟩) x.b.bs.length x.cb, .slice (some ⟨x.gl, 0, none⟩) x.b.ls.length x.cl, .slice (some ⟨x.gt, 0, none⟩) x.b.ts.length x.ct, .int .i64 x.b.lot], .int .i64 fa, .int .i64 fb, .int .i64 fi, .int .i64 fq, .int .i64 fk, .int .i64 (-1)] w fun e w' => ∃ (y : Bx) (t c : Int), Carried x.b fa fb fi fq fk y.b t c ∧ e = .returned (.tuple #[.agg #[.slice (some ⟨y.ga, 0, none⟩) y.b.ac.length y.ca, .slice (some ⟨y.gi, 0, none⟩) y.b.ic.length y.ci, .slice (some ⟨y.gb, 0, none⟩) y.b.bs.length y.cb, .slice (some ⟨y.gl, 0, none⟩) y.b.ls.length y.cl, .slice (some ⟨y.gt, 0, none⟩) y.b.ts.length y.ct, .int .i64 y.b.lot], .int .i64 t, .int .i64 c]) ∧ Ow w' base y ∧ Below w.heap.size w w' := by
  obtain ⟨bad, hbad⟩ := says_of (¬ STake.TakeOk x.b.ls fq fk)
  obtain ⟨short, hshort⟩ := says_of (Takes.sumQ (Lots.ownL x.b.ls fa fi) < fq)
  have HB := hide hbad
  have HS := hide hshort
  have R0 := hide (O.rd s)
  have O0 := hide O
  have U0 := hide (ow_up O)
  have S1 := hide (SV.start w x)
  have SM := hide s
  have HL := hide hlot
  have nl := s.2.2.2.1
  clear O s hbad hshort hlot
  go_enter Tryz.func79, Tryz.ntmps79
  go_wp2_with fail
  generalize ((w.alloc (.cells #[.slice (some ⟨x.ga, 0, none⟩) x.b.ac.length x.ca, .slice (some ⟨x.gi, 0, none⟩) x.b.ic.length x.ci, .slice (some ⟨x.gb, 0, none⟩) x.b.bs.length x.cb, .slice (some ⟨x.gl, 0, none⟩) x.b.ls.length x.cl, .slice (some ⟨x.gt, 0, none⟩) x.b.ts.length x.ct, .int .i64 x.b.lot] 37)).alloc (.cells #[.slice none 0 0, .slice none 0 0, .slice none 0 0, .slice none 0 0, .slice none 0 0, .int .i64 0] 37)) = w1 at *
  refine (STake.sTake w1 x.gl _ x.cl x.b.ls (takenL x.b fa fi fq fk) fa fi fq fk bad short rfl nl ((unhide R0).below (unhide S1).b).ll ((unhide R0).below (unhide S1).b).rl (unhide HB) (unhide HS) (fun _ _ => rfl)).mono ?_
  rintro e w2 ⟨g2, k2, rfl, o2, bb⟩
  have S2 := hide ((unhide S1).step bb)
  have OX := hide ((unhide O0).below (unhide S2).b (Nat.le_refl _))
  have BW := hide (unhide S2).b
  have O2 := hide o2
  have g2l := o2.lt.1
  have z1 := (unhide S1).v.lt.2
  have zb := (unhide O0).oa.lt
  have z2 := (unhide S2).v.lt.2
  clear o2 bb
  have c0 := (unhide S2).x.c0
  have c1 := (unhide S2).x.c1
  have c2 := (unhide S2).x.c2
  have c3 := (unhide S2).x.c3
  have c4 := (unhide S2).x.c4
  have c5 := (unhide S2).x.c5
  have x3 := (unhide S2).x.free 3
  rcases taken_cases bad short with ⟨rfl, rfl⟩ | ⟨hne, hno⟩
  · have CT := hide (show CanTake x.b fa fi fq fk from by
      have hb := Classical.byContradiction (unhide HB).no
      exact ⟨hb.1, hb.2.1, hb.2.2, (unhide HS).no⟩)
    obtain ⟨R, hR⟩ : ∃ R, Hid (takenL x.b fa fi fq fk = R) := ⟨_, rfl⟩
    obtain ⟨ck, hck⟩ : ∃ ck, Hid (Takes.takeC fk (Lots.ownL x.b.ls fa fi) fq = ck) := ⟨_, rfl⟩
    have O2 := hide (show Tup5.Own5 106 w2 w1.heap.size g2 R.length k2 R from by rw [← unhide hR]; exact unhide O2)
    have OY := hide (ow_withL (lot := x.b.lot) (unhide OX) ((unhide O2).rebase (base' := base) (by omega)))
    have F1 := hide (off_withL (c := k2) (qs := R) (lot := x.b.lot) (unhide U0) (Nat.le_refl w.heap.size) (show w.heap.size < g2 by omega))
    have TK := hide (show IsTake x.b fa fi fq fk (withL x g2 k2 R x.b.lot).b ck 0 from .inl ⟨unhide CT, by rw [← unhide hR], (unhide hck).symm, rfl⟩)
    have SY := hide (show Small (withL x g2 k2 R x.b.lot).b from by
      have := taken_len (unhide CT) (unhide SM)
      rw [unhide hR] at this
      obtain ⟨a, b, c, d, e⟩ := unhide SM
      exact ⟨a, b, c, this, e⟩)
    rw [show (STake.takeA x.b.ls (takenL x.b fa fi fq fk) false false).length = R.length from by rw [← unhide hR]; rfl, show STake.takeK (Takes.takeC fk (Lots.ownL x.b.ls fa fi) fq) false false = ck from by rw [← unhide hck]; rfl, show STake.takeD false false = 0 from rfl]
    go_wp2_with fail
    refine (sOpenB _ base (withL x g2 k2 R x.b.lot) fb fi fq ck (ow_set (unhide OY) (unhide F1) 3 _) (unhide HL) (unhide SY)).mono ?_
    rintro e w3 ⟨y, c, ho, rfl, o3, bb⟩
    have V3 := hide (Box.below (row_set (unhide S2).v (show w.heap.size + 1 ≠ w.heap.size by omega) 3 (.slice (some ⟨g2, 0, none⟩) R.length k2)) bb (by simpa using z2))
    have B3 := hide (((unhide BW).setCell (p := ⟨w.heap.size, 3, none⟩) (Nat.le_refl _) _).trans (bb.mono (by simpa using (unhide BW).size)))
    have O3 := hide o3
    have HO := hide ho
    have F3 := hide (off_box o3 (unhide V3))
    have l3 := (unhide V3).lt.2
    have l4 : w.heap.size + 1 ≠ w3.heap.size := by omega
    clear bb o3 ho c0 c1 c2 c3 c4 c5 x3
    have r0 := (unhide V3).c0
    have r1 := (unhide V3).c1
    have r2 := (unhide V3).c2
    have r3 := (unhide V3).c3
    have r4 := (unhide V3).c4
    have r5 := (unhide V3).c5
    have f0 := (unhide V3).free 0
    have f1 := (unhide V3).free 1
    have f2 := (unhide V3).free 2
    have f3 := (unhide V3).free 3
    have f4 := (unhide V3).free 4
    have f5 := (unhide V3).free 5
    go_wp2
    refine to_wb (fun W => Box W w.heap.size (w.heap.size + 1) (.slice (some ⟨y.ga, 0, none⟩) y.b.ac.length y.ca) (.slice (some ⟨y.gi, 0, none⟩) y.b.ic.length y.ci) (.slice (some ⟨y.gb, 0, none⟩) y.b.bs.length y.cb) (.slice (some ⟨y.gl, 0, none⟩) y.b.ls.length y.cl) (.slice (some ⟨y.gt, 0, none⟩) y.b.ts.length y.ct) (.int .i64 y.b.lot) ∧ Below w.heap.size w W ∧ Ow W base y) ?_ ?_
    · exact ⟨box_six_alloc (unhide V3) _ _ _ _ _ _ _, six_alloc (unhide B3) (unhide B3).size (by omega) _ _ _ _ _ _ _, ow_six_alloc (unhide O3) (unhide F3) (Nat.le_refl _) _ _ _ _ _ _ _⟩
    rintro W ⟨X, B, OW⟩
    have p0 := X.c0
    have p1 := X.c1
    have p2 := X.c2
    have p3 := X.c3
    have p4 := X.c4
    have p5 := X.c5
    exact bodyPost_ret (v := .tuple #[.agg #[.slice (some ⟨y.ga, 0, none⟩) y.b.ac.length y.ca, .slice (some ⟨y.gi, 0, none⟩) y.b.ic.length y.ci, .slice (some ⟨y.gb, 0, none⟩) y.b.bs.length y.cb, .slice (some ⟨y.gl, 0, none⟩) y.b.ls.length y.cl, .slice (some ⟨y.gt, 0, none⟩) y.b.ts.length y.ct, .int .i64 y.b.lot], .int .i64 ck, .int .i64 c]) (by simp [results, Tryz.results79, go_sem, p0, p1, p2, p3, p4, p5]) rfl ⟨y, ck, c, ⟨_, ck, 0, unhide TK, .inr ⟨rfl, unhide HO, rfl⟩⟩, rfl, OW, B⟩
  · have CT := hide (show ¬ CanTake x.b fa fi fq fk from fun h => hno ⟨(unhide HB).not (fun r => r ⟨h.1, h.2.1, h.2.2.1⟩), (unhide HS).not h.2.2.2⟩)
    obtain ⟨c, hc⟩ : ∃ c, Hid (STake.takeD bad short = c) := ⟨_, rfl⟩
    have cb : (c != 0) = true := by rw [← unhide hc]; simpa using hne
    rw [unhide hc]
    clear hne hno
    have r0 := (unhide S2).v.c0
    have r1 := (unhide S2).v.c1
    have r2 := (unhide S2).v.c2
    have r3 := (unhide S2).v.c3
    have r4 := (unhide S2).v.c4
    have r5 := (unhide S2).v.c5
    have f0 := (unhide S2).v.free 0
    have f1 := (unhide S2).v.free 1
    have f2 := (unhide S2).v.free 2
    have f3 := (unhide S2).v.free 3
    have f4 := (unhide S2).v.free 4
    have f5 := (unhide S2).v.free 5
    go_wp2
    refine bodyPost_ret (v := .tuple #[.agg #[.slice (some ⟨x.ga, 0, none⟩) x.b.ac.length x.ca, .slice (some ⟨x.gi, 0, none⟩) x.b.ic.length x.ci, .slice (some ⟨x.gb, 0, none⟩) x.b.bs.length x.cb, .slice (some ⟨x.gl, 0, none⟩) x.b.ls.length x.cl, .slice (some ⟨x.gt, 0, none⟩) x.b.ts.length x.ct, .int .i64 x.b.lot], .int .i64 0, .int .i64 5]) (by simp [results, Tryz.results79, go_sem, r0, r1, r2, r3, r4, r5]) rfl ⟨x, 0, 5, ⟨x.b, 0, 5, .inr ⟨unhide CT, rfl, rfl, rfl⟩, .inl ⟨by omega, rfl, rfl⟩⟩, rfl, ?_, ?_⟩
    · exact ow_six (unhide OX) (off_up (unhide U0) (by omega)) _ _ _ _ _ _
    · exact Ans.six (unhide BW) (by omega) _ _ _ _ _ _

end Go.Proofs.YtaegpoblmldhfaaGreat.SCarry

/- The model's move. -/
namespace Go.Proofs.YtaegpoblmldhfaaGreat.SMove
open Go.ChangeShapes Go.WideShapes Go.ChangeAt Go.RowKit BMem Bks ILists BHelp Ans SBk
open IBalsFit (one_more)
open Lots (Says says_of NoOk)
open Quieter (Near near_is quiet_near)
open Bals (T3)
open Tup5 (T5)
set_option linter.unusedVariables false
set_option linter.unusedSimpArgs false
open SIssue (posted_small posted_lot six_alloc ow_six_alloc box_six_alloc to_wb off_box ne_true ne_false eq_true eq_false)
open SCarry (Carried)

/-- What is asked of a move's arguments. -/
def ToldM (b : Bk) (fa fb fi fq fk : Int) : Prop := Ok b ∧ NoOk fa ∧ NoOk fb ∧ NoOk fi ∧ (1 ≤ fq ∧ fq ≤ 1000000000000000) ∧ (1 ≤ fk ∧ fk ≤ 3)

/-- A command's answer that tells a number too. -/
def AnsM (told : Prop) (P : Bk → Int → Int → Prop) (w : World) (e : Ending) (w' : World) : Prop :=
  (¬ told ∧ e = .returned (.tuple #[.agg #[.slice none 0 0, .slice none 0 0, .slice none 0 0, .slice none 0 0, .slice none 0 0, .int .i64 0], .int .i64 0, .int .i64 1]) ∧ Below w.heap.size w w') ∨
  (told ∧ ∃ (z : Bx) (t c : Int), P z.b t c ∧ e = .returned (.tuple #[.agg #[.slice (some ⟨z.ga, 0, none⟩) z.b.ac.length z.ca, .slice (some ⟨z.gi, 0, none⟩) z.b.ic.length z.ci, .slice (some ⟨z.gb, 0, none⟩) z.b.bs.length z.cb, .slice (some ⟨z.gl, 0, none⟩) z.b.ls.length z.cl, .slice (some ⟨z.gt, 0, none⟩) z.b.ts.length z.ct, .int .i64 z.b.lot], .int .i64 t, .int .i64 c]) ∧ Ow w' w.heap.size z ∧ Below w.heap.size w w')

set_option maxRecDepth 100000 in
set_option maxHeartbeats 16000000 in
theorem sMove (w : World) (x : Bx) (fa fb fi fq fk : Int) (hr : Rd w x) :
    Calls Tryz.prog 21 #[.agg #[.slice (some ⟨x.ga, 0, none⟩) x.b.ac.length x.ca, .slice (some ⟨x.gi, 0, none⟩) x.b.ic.length x.ci, .slice (some ⟨x.gb, 0, none⟩) x.b.bs.length x.cb, .slice (some ⟨x.gl, 0, none⟩) x.b.ls.length x.cl, .slice (some ⟨x.gt, 0, none⟩) x.b.ts.length x.ct, .int .i64 x.b.lot], .int .i64 fa, .int .i64 fb, .int .i64 fi, .int .i64 fq, .int .i64 fk] w (AnsM (ToldM x.b fa fb fi fq fk) (IsMove x.b fa fb fi fq fk) w) := by
  obtain ⟨b0, h0⟩ := says_of (Ok x.b)
  obtain ⟨b1, h1⟩ := says_of (NoOk fa)
  obtain ⟨b2, h2⟩ := says_of (NoOk fb)
  obtain ⟨b3, h3⟩ := says_of (NoOk fi)
  obtain ⟨b4, h4⟩ := says_of (1 ≤ fq ∧ fq ≤ 1000000000000000)
  obtain ⟨b5, h5⟩ := says_of (1 ≤ fk ∧ fk ≤ 3)
  have H0 := hide h0
  have H1 := hide h1
  have H2 := hide h2
  have H3 := hide h3
  have H4 := hide h4
  have H5 := hide h5
  have S0 := hide (SR.start hr)
  have HR := hide hr
  clear h0 h1 h2 h3 h4 h5 hr
  go_enter Tryz.func21, Tryz.ntmps21
  go_wp2_with fail
  refine (SBooksOk.sBooksOk _ x b0 (unhide S0).r (unhide H0)).mono ?_
  rintro e w1 ⟨rfl, bb⟩
  have S1 := hide ((unhide S0).step bb)
  have B1 := hide (unhide S1).b
  clear bb
  obtain ⟨c0, c1, c2, c3, c4, c5⟩ := (unhide S1).c
  have r0 := (unhide S1).v.c0
  have r1 := (unhide S1).v.c1
  have r2 := (unhide S1).v.c2
  have r3 := (unhide S1).v.c3
  have r4 := (unhide S1).v.c4
  have r5 := (unhide S1).v.c5
  have f0 := (unhide S1).v.free 0
  have f1 := (unhide S1).v.free 1
  have f2 := (unhide S1).v.free 2
  have f3 := (unhide S1).v.free 3
  have f4 := (unhide S1).v.free 4
  have f5 := (unhide S1).v.free 5
  cases b0
  · have N := hide (show ¬ ToldM x.b fa fb fi fq fk from fun hh => (unhide H0).no hh.1)
    go_wp2
    refine bodyPost_ret (v := .tuple #[.agg #[.slice none 0 0, .slice none 0 0, .slice none 0 0, .slice none 0 0, .slice none 0 0, .int .i64 0], .int .i64 0, .int .i64 1]) (by simp [results, Tryz.results21, go_sem, r0, r1, r2, r3, r4, r5]) rfl (.inl ⟨unhide N, rfl, ?_⟩)
    exact six (unhide B1) (by omega) _ _ _ _ _ _
  go_wp2_with fail
  refine (SOk5.sNo fa b1 _ (unhide H1)).mono ?_
  rintro e v1 ⟨rfl, rfl⟩
  cases b1
  · have N := hide (show ¬ ToldM x.b fa fb fi fq fk from fun hh => (unhide H1).no hh.2.1)
    go_wp2
    refine bodyPost_ret (v := .tuple #[.agg #[.slice none 0 0, .slice none 0 0, .slice none 0 0, .slice none 0 0, .slice none 0 0, .int .i64 0], .int .i64 0, .int .i64 1]) (by simp [results, Tryz.results21, go_sem, r0, r1, r2, r3, r4, r5]) rfl (.inl ⟨unhide N, rfl, ?_⟩)
    exact six (unhide B1) (by omega) _ _ _ _ _ _
  go_wp2_with fail
  refine (SOk5.sNo fb b2 _ (unhide H2)).mono ?_
  rintro e v2 ⟨rfl, rfl⟩
  cases b2
  · have N := hide (show ¬ ToldM x.b fa fb fi fq fk from fun hh => (unhide H2).no hh.2.2.1)
    go_wp2
    refine bodyPost_ret (v := .tuple #[.agg #[.slice none 0 0, .slice none 0 0, .slice none 0 0, .slice none 0 0, .slice none 0 0, .int .i64 0], .int .i64 0, .int .i64 1]) (by simp [results, Tryz.results21, go_sem, r0, r1, r2, r3, r4, r5]) rfl (.inl ⟨unhide N, rfl, ?_⟩)
    exact six (unhide B1) (by omega) _ _ _ _ _ _
  go_wp2_with fail
  refine (SOk5.sNo fi b3 _ (unhide H3)).mono ?_
  rintro e v3 ⟨rfl, rfl⟩
  cases b3
  · have N := hide (show ¬ ToldM x.b fa fb fi fq fk from fun hh => (unhide H3).no hh.2.2.2.1)
    go_wp2
    refine bodyPost_ret (v := .tuple #[.agg #[.slice none 0 0, .slice none 0 0, .slice none 0 0, .slice none 0 0, .slice none 0 0, .int .i64 0], .int .i64 0, .int .i64 1]) (by simp [results, Tryz.results21, go_sem, r0, r1, r2, r3, r4, r5]) rfl (.inl ⟨unhide N, rfl, ?_⟩)
    exact six (unhide B1) (by omega) _ _ _ _ _ _
  go_wp2_with fail
  refine (SOk5.sSome fq 1 b4 _ (unhide H4)).mono ?_
  rintro e v4 ⟨rfl, rfl⟩
  cases b4
  · have N := hide (show ¬ ToldM x.b fa fb fi fq fk from fun hh => (unhide H4).no hh.2.2.2.2.1)
    go_wp2
    refine bodyPost_ret (v := .tuple #[.agg #[.slice none 0 0, .slice none 0 0, .slice none 0 0, .slice none 0 0, .slice none 0 0, .int .i64 0], .int .i64 0, .int .i64 1]) (by simp [results, Tryz.results21, go_sem, r0, r1, r2, r3, r4, r5]) rfl (.inl ⟨unhide N, rfl, ?_⟩)
    exact six (unhide B1) (by omega) _ _ _ _ _ _
  go_wp2_with fail
  refine (SOk5.sIn fk 1 3 b5 _ (unhide H5)).mono ?_
  rintro e v5 ⟨rfl, rfl⟩
  cases b5
  · have N := hide (show ¬ ToldM x.b fa fb fi fq fk from fun hh => (unhide H5).no hh.2.2.2.2.2)
    go_wp2
    refine bodyPost_ret (v := .tuple #[.agg #[.slice none 0 0, .slice none 0 0, .slice none 0 0, .slice none 0 0, .slice none 0 0, .int .i64 0], .int .i64 0, .int .i64 1]) (by simp [results, Tryz.results21, go_sem, r0, r1, r2, r3, r4, r5]) rfl (.inl ⟨unhide N, rfl, ?_⟩)
    exact six (unhide B1) (by omega) _ _ _ _ _ _
  have TT := hide (show ToldM x.b fa fb fi fq fk from ⟨(unhide H0).yes, (unhide H1).yes, (unhide H2).yes, (unhide H3).yes, (unhide H4).yes, (unhide H5).yes⟩)
  have LI := hide (unhide H0).yes.1
  have SM := hide (ok_small (unhide H0).yes)
  obtain ⟨K1, hK1⟩ : ∃ K, Hid (kindOf x.b.ac fa = K) := ⟨_, rfl⟩
  obtain ⟨K2, hK2⟩ : ∃ K, Hid (kindOf x.b.ac fb = K) := ⟨_, rfl⟩
  obtain ⟨K3, hK3⟩ : ∃ K, Hid (kindOf x.b.ic fi = K) := ⟨_, rfl⟩
  have K4 := And.intro c0 c1
  have M1 := trivial
  clear c0 c1 c2 c3 c4 c5 r0 r1 r2 r3 r4 r5 f0 f1 f2 f3 f4 f5
  clear H0 H1 H2 H3 H4 H5 S0
  go_wp2_with fail
  go_region_held3 (fun w' => w'.cell? ⟨w.heap.size, 0, none⟩ = some (.slice (some ⟨x.ga, 0, none⟩) x.b.ac.length x.ca) ∧ w'.cell? ⟨w.heap.size, 1, none⟩ = some (.slice (some ⟨x.gi, 0, none⟩) x.b.ic.length x.ci)) (first | exact K4 | exact K5 | exact K6 | exact K7)
    (first | (go_at_call 36; clear M1; refine (SBals.sKindA v5.drew x fa K1 ((unhide S1).r.below (Below.refl _ _).drew) (unhide LI).1 (unhide hK1)).mono ?_; rintro e u1 ⟨rfl, bb⟩; have bW : Below v5.heap.size v5 u1 := ILotsFit.below_of_drew bb; have T1 := hide ((unhide S1).step bW); have K5 := And.intro (unhide T1).c.c0 (unhide T1).c.c1; clear bb bW) | (go_at_call 36; refine (SBals.sKindA u1 x fb K2 (unhide T1).r (unhide LI).1 (unhide hK2)).mono ?_; rintro e u2 ⟨rfl, bb2⟩; have T2 := hide ((unhide T1).step bb2); have K6 := And.intro (unhide T2).c.c0 (unhide T2).c.c1; clear bb2) | (go_at_call 37; refine (SBals.sKindI u2 x fi K3 (unhide T2).r (unhide LI).2.1 (unhide hK3)).mono ?_; rintro e w2 ⟨rfl, bb3⟩; have S2 := hide ((unhide T2).step bb3); have K7 := And.intro (unhide S2).c.c0 (unhide S2).c.c1; clear bb3))
  clear K4 K5 K6 K7 T1 T2
  obtain ⟨c0, c1, c2, c3, c4, c5⟩ := (unhide S2).c
  have r0 := (unhide S2).v.c0
  have r1 := (unhide S2).v.c1
  have r2 := (unhide S2).v.c2
  have r3 := (unhide S2).v.c3
  have r4 := (unhide S2).v.c4
  have r5 := (unhide S2).v.c5
  have f0 := (unhide S2).v.free 0
  have f1 := (unhide S2).v.free 1
  have f2 := (unhide S2).v.free 2
  have f3 := (unhide S2).v.free 3
  have f4 := (unhide S2).v.free 4
  have f5 := (unhide S2).v.free 5
  have KIN := hide (kind_in (unhide LI).2.1 fi)
  have zero : ((K1 == 0) = true ∨ ((K1 == 0) = false ∧ (K2 == 0) = true) ∨ ((K1 == 0) = false ∧ (K2 == 0) = false ∧ (K3 == 0) = true)) ∧ Hid (kindOf x.b.ac fa = 0 ∨ kindOf x.b.ac fb = 0 ∨ kindOf x.b.ic fi = 0) ∨ ((K1 == 0) = false ∧ (K2 == 0) = false ∧ (K3 == 0) = false) ∧ Hid (¬ (kindOf x.b.ac fa = 0 ∨ kindOf x.b.ac fb = 0 ∨ kindOf x.b.ic fi = 0)) := by
    rw [unhide hK1, unhide hK2, unhide hK3]
    by_cases k1 : K1 = 0
    · exact .inl ⟨.inl (eq_true k1), .inl k1⟩
    by_cases k2 : K2 = 0
    · exact .inl ⟨.inr (.inl ⟨eq_false k1, eq_true k2⟩), .inr (.inl k2)⟩
    by_cases k3 : K3 = 0
    · exact .inl ⟨.inr (.inr ⟨eq_false k1, eq_false k2, eq_true k3⟩), .inr (.inr k3)⟩
    · exact .inr ⟨⟨eq_false k1, eq_false k2, eq_false k3⟩, fun hh => by omega⟩
  obtain ⟨Z, ZZ⟩ | ⟨⟨n1, n2, n3⟩, NZ⟩ := zero
  · have I3 := hide (show IsMove x.b fa fb fi fq fk x.b 0 3 from .inl ⟨unhide ZZ, rfl, rfl, rfl⟩)
    clear hK1 hK2 hK3 KIN ZZ
    obtain n1 | ⟨n1, n2⟩ | ⟨n1, n2, n3⟩ := Z
    · have skip := trivial
      go_wp2_with fail
      refine (SCopy.sCopy _ x (unhide S2).r).mono ?_
      rintro e w8 ⟨z, hz, rfl, oz, bb⟩
      have S8 := hide ((unhide S2).step bb)
      have OZ := hide (oz.rebase (unhide S2).b.size)
      have LZ := hide (ow_lo oz)
      have zl := (unhide S2).v.lt.2
      have IZ := hide (show IsMove x.b fa fb fi fq fk z.b 0 3 from by rw [hz]; exact (unhide I3))
      clear bb oz hz
      clear c0 c1 c2 c3 c4 c5 r0 r1 r2 r3 r4 r5 f0 f1 f2 f3 f4 f5
      obtain ⟨c0, c1, c2, c3, c4, c5⟩ := (unhide S8).c
      have r0 := (unhide S8).v.c0
      have r1 := (unhide S8).v.c1
      have r2 := (unhide S8).v.c2
      have r3 := (unhide S8).v.c3
      have r4 := (unhide S8).v.c4
      have r5 := (unhide S8).v.c5
      have f0 := (unhide S8).v.free 0
      have f1 := (unhide S8).v.free 1
      have f2 := (unhide S8).v.free 2
      have f3 := (unhide S8).v.free 3
      have f4 := (unhide S8).v.free 4
      have f5 := (unhide S8).v.free 5
      go_wp2
      refine bodyPost_ret (v := .tuple #[.agg #[.slice (some ⟨z.ga, 0, none⟩) z.b.ac.length z.ca, .slice (some ⟨z.gi, 0, none⟩) z.b.ic.length z.ci, .slice (some ⟨z.gb, 0, none⟩) z.b.bs.length z.cb, .slice (some ⟨z.gl, 0, none⟩) z.b.ls.length z.cl, .slice (some ⟨z.gt, 0, none⟩) z.b.ts.length z.ct, .int .i64 z.b.lot], .int .i64 0, .int .i64 3]) (by simp [results, Tryz.results21, go_sem, r0, r1, r2, r3, r4, r5]) rfl (.inr ⟨unhide TT, z, 0, 3, unhide IZ, rfl, ?_, ?_⟩)
      · exact ow_six (unhide OZ) (off_lo (unhide LZ) zl) _ _ _ _ _ _
      · exact six (unhide S8).b (by omega) _ _ _ _ _ _
    · have skip := trivial
      go_wp2_with fail
      refine (SCopy.sCopy _ x (unhide S2).r).mono ?_
      rintro e w8 ⟨z, hz, rfl, oz, bb⟩
      have S8 := hide ((unhide S2).step bb)
      have OZ := hide (oz.rebase (unhide S2).b.size)
      have LZ := hide (ow_lo oz)
      have zl := (unhide S2).v.lt.2
      have IZ := hide (show IsMove x.b fa fb fi fq fk z.b 0 3 from by rw [hz]; exact (unhide I3))
      clear bb oz hz
      clear c0 c1 c2 c3 c4 c5 r0 r1 r2 r3 r4 r5 f0 f1 f2 f3 f4 f5
      obtain ⟨c0, c1, c2, c3, c4, c5⟩ := (unhide S8).c
      have r0 := (unhide S8).v.c0
      have r1 := (unhide S8).v.c1
      have r2 := (unhide S8).v.c2
      have r3 := (unhide S8).v.c3
      have r4 := (unhide S8).v.c4
      have r5 := (unhide S8).v.c5
      have f0 := (unhide S8).v.free 0
      have f1 := (unhide S8).v.free 1
      have f2 := (unhide S8).v.free 2
      have f3 := (unhide S8).v.free 3
      have f4 := (unhide S8).v.free 4
      have f5 := (unhide S8).v.free 5
      go_wp2
      refine bodyPost_ret (v := .tuple #[.agg #[.slice (some ⟨z.ga, 0, none⟩) z.b.ac.length z.ca, .slice (some ⟨z.gi, 0, none⟩) z.b.ic.length z.ci, .slice (some ⟨z.gb, 0, none⟩) z.b.bs.length z.cb, .slice (some ⟨z.gl, 0, none⟩) z.b.ls.length z.cl, .slice (some ⟨z.gt, 0, none⟩) z.b.ts.length z.ct, .int .i64 z.b.lot], .int .i64 0, .int .i64 3]) (by simp [results, Tryz.results21, go_sem, r0, r1, r2, r3, r4, r5]) rfl (.inr ⟨unhide TT, z, 0, 3, unhide IZ, rfl, ?_, ?_⟩)
      · exact ow_six (unhide OZ) (off_lo (unhide LZ) zl) _ _ _ _ _ _
      · exact six (unhide S8).b (by omega) _ _ _ _ _ _
    · have skip := trivial
      go_wp2_with fail
      refine (SCopy.sCopy _ x (unhide S2).r).mono ?_
      rintro e w8 ⟨z, hz, rfl, oz, bb⟩
      have S8 := hide ((unhide S2).step bb)
      have OZ := hide (oz.rebase (unhide S2).b.size)
      have LZ := hide (ow_lo oz)
      have zl := (unhide S2).v.lt.2
      have IZ := hide (show IsMove x.b fa fb fi fq fk z.b 0 3 from by rw [hz]; exact (unhide I3))
      clear bb oz hz
      clear c0 c1 c2 c3 c4 c5 r0 r1 r2 r3 r4 r5 f0 f1 f2 f3 f4 f5
      obtain ⟨c0, c1, c2, c3, c4, c5⟩ := (unhide S8).c
      have r0 := (unhide S8).v.c0
      have r1 := (unhide S8).v.c1
      have r2 := (unhide S8).v.c2
      have r3 := (unhide S8).v.c3
      have r4 := (unhide S8).v.c4
      have r5 := (unhide S8).v.c5
      have f0 := (unhide S8).v.free 0
      have f1 := (unhide S8).v.free 1
      have f2 := (unhide S8).v.free 2
      have f3 := (unhide S8).v.free 3
      have f4 := (unhide S8).v.free 4
      have f5 := (unhide S8).v.free 5
      go_wp2
      refine bodyPost_ret (v := .tuple #[.agg #[.slice (some ⟨z.ga, 0, none⟩) z.b.ac.length z.ca, .slice (some ⟨z.gi, 0, none⟩) z.b.ic.length z.ci, .slice (some ⟨z.gb, 0, none⟩) z.b.bs.length z.cb, .slice (some ⟨z.gl, 0, none⟩) z.b.ls.length z.cl, .slice (some ⟨z.gt, 0, none⟩) z.b.ts.length z.ct, .int .i64 z.b.lot], .int .i64 0, .int .i64 3]) (by simp [results, Tryz.results21, go_sem, r0, r1, r2, r3, r4, r5]) rfl (.inr ⟨unhide TT, z, 0, 3, unhide IZ, rfl, ?_, ?_⟩)
      · exact ow_six (unhide OZ) (off_lo (unhide LZ) zl) _ _ _ _ _ _
      · exact six (unhide S8).b (by omega) _ _ _ _ _ _
  have kinds : (((K1 != 1) = true ∨ ((K1 != 1) = false ∧ (K2 != 1) = true) ∨ ((K1 != 1) = false ∧ (K2 != 1) = false ∧ (fa == fb) = true))) ∧ Hid (kindOf x.b.ac fa ≠ 1 ∨ kindOf x.b.ac fb ≠ 1 ∨ fa = fb) ∨ ((K1 != 1) = false ∧ (K2 != 1) = false ∧ (fa == fb) = false) ∧ Hid (¬ (kindOf x.b.ac fa ≠ 1 ∨ kindOf x.b.ac fb ≠ 1 ∨ fa = fb)) := by
    rw [unhide hK1, unhide hK2]
    by_cases k1 : K1 = 1
    · by_cases k2 : K2 = 1
      · by_cases k3 : fa = fb
        · exact .inl ⟨.inr (.inr ⟨ne_false k1, ne_false k2, eq_true k3⟩), .inr (.inr k3)⟩
        · exact .inr ⟨⟨ne_false k1, ne_false k2, eq_false k3⟩, fun hh => by omega⟩
      · exact .inl ⟨.inr (.inl ⟨ne_false k1, ne_true k2⟩), .inr (.inl k2)⟩
    · exact .inl ⟨.inl (ne_true k1), .inl k1⟩
  obtain ⟨Z, ZZ⟩ | ⟨Z, NK⟩ := kinds
  · have I4 := hide (show IsMove x.b fa fb fi fq fk x.b 0 4 from .inr (.inl ⟨unhide NZ, unhide ZZ, rfl, rfl, rfl⟩))
    clear hK1 hK2 hK3 KIN ZZ NZ
    obtain m1 | ⟨m1, m2⟩ | ⟨m1, m2, m3⟩ := Z
    · have skip := trivial
      go_wp2_with fail
      refine (SCopy.sCopy _ x (unhide S2).r).mono ?_
      rintro e w8 ⟨z, hz, rfl, oz, bb⟩
      have S8 := hide ((unhide S2).step bb)
      have OZ := hide (oz.rebase (unhide S2).b.size)
      have LZ := hide (ow_lo oz)
      have zl := (unhide S2).v.lt.2
      have IZ := hide (show IsMove x.b fa fb fi fq fk z.b 0 4 from by rw [hz]; exact (unhide I4))
      clear bb oz hz
      clear c0 c1 c2 c3 c4 c5 r0 r1 r2 r3 r4 r5 f0 f1 f2 f3 f4 f5
      obtain ⟨c0, c1, c2, c3, c4, c5⟩ := (unhide S8).c
      have r0 := (unhide S8).v.c0
      have r1 := (unhide S8).v.c1
      have r2 := (unhide S8).v.c2
      have r3 := (unhide S8).v.c3
      have r4 := (unhide S8).v.c4
      have r5 := (unhide S8).v.c5
      have f0 := (unhide S8).v.free 0
      have f1 := (unhide S8).v.free 1
      have f2 := (unhide S8).v.free 2
      have f3 := (unhide S8).v.free 3
      have f4 := (unhide S8).v.free 4
      have f5 := (unhide S8).v.free 5
      go_wp2
      refine bodyPost_ret (v := .tuple #[.agg #[.slice (some ⟨z.ga, 0, none⟩) z.b.ac.length z.ca, .slice (some ⟨z.gi, 0, none⟩) z.b.ic.length z.ci, .slice (some ⟨z.gb, 0, none⟩) z.b.bs.length z.cb, .slice (some ⟨z.gl, 0, none⟩) z.b.ls.length z.cl, .slice (some ⟨z.gt, 0, none⟩) z.b.ts.length z.ct, .int .i64 z.b.lot], .int .i64 0, .int .i64 4]) (by simp [results, Tryz.results21, go_sem, r0, r1, r2, r3, r4, r5]) rfl (.inr ⟨unhide TT, z, 0, 4, unhide IZ, rfl, ?_, ?_⟩)
      · exact ow_six (unhide OZ) (off_lo (unhide LZ) zl) _ _ _ _ _ _
      · exact six (unhide S8).b (by omega) _ _ _ _ _ _
    · have skip := trivial
      go_wp2_with fail
      refine (SCopy.sCopy _ x (unhide S2).r).mono ?_
      rintro e w8 ⟨z, hz, rfl, oz, bb⟩
      have S8 := hide ((unhide S2).step bb)
      have OZ := hide (oz.rebase (unhide S2).b.size)
      have LZ := hide (ow_lo oz)
      have zl := (unhide S2).v.lt.2
      have IZ := hide (show IsMove x.b fa fb fi fq fk z.b 0 4 from by rw [hz]; exact (unhide I4))
      clear bb oz hz
      clear c0 c1 c2 c3 c4 c5 r0 r1 r2 r3 r4 r5 f0 f1 f2 f3 f4 f5
      obtain ⟨c0, c1, c2, c3, c4, c5⟩ := (unhide S8).c
      have r0 := (unhide S8).v.c0
      have r1 := (unhide S8).v.c1
      have r2 := (unhide S8).v.c2
      have r3 := (unhide S8).v.c3
      have r4 := (unhide S8).v.c4
      have r5 := (unhide S8).v.c5
      have f0 := (unhide S8).v.free 0
      have f1 := (unhide S8).v.free 1
      have f2 := (unhide S8).v.free 2
      have f3 := (unhide S8).v.free 3
      have f4 := (unhide S8).v.free 4
      have f5 := (unhide S8).v.free 5
      go_wp2
      refine bodyPost_ret (v := .tuple #[.agg #[.slice (some ⟨z.ga, 0, none⟩) z.b.ac.length z.ca, .slice (some ⟨z.gi, 0, none⟩) z.b.ic.length z.ci, .slice (some ⟨z.gb, 0, none⟩) z.b.bs.length z.cb, .slice (some ⟨z.gl, 0, none⟩) z.b.ls.length z.cl, .slice (some ⟨z.gt, 0, none⟩) z.b.ts.length z.ct, .int .i64 z.b.lot], .int .i64 0, .int .i64 4]) (by simp [results, Tryz.results21, go_sem, r0, r1, r2, r3, r4, r5]) rfl (.inr ⟨unhide TT, z, 0, 4, unhide IZ, rfl, ?_, ?_⟩)
      · exact ow_six (unhide OZ) (off_lo (unhide LZ) zl) _ _ _ _ _ _
      · exact six (unhide S8).b (by omega) _ _ _ _ _ _
    · have skip := trivial
      go_wp2_with fail
      refine (SCopy.sCopy _ x (unhide S2).r).mono ?_
      rintro e w8 ⟨z, hz, rfl, oz, bb⟩
      have S8 := hide ((unhide S2).step bb)
      have OZ := hide (oz.rebase (unhide S2).b.size)
      have LZ := hide (ow_lo oz)
      have zl := (unhide S2).v.lt.2
      have IZ := hide (show IsMove x.b fa fb fi fq fk z.b 0 4 from by rw [hz]; exact (unhide I4))
      clear bb oz hz
      clear c0 c1 c2 c3 c4 c5 r0 r1 r2 r3 r4 r5 f0 f1 f2 f3 f4 f5
      obtain ⟨c0, c1, c2, c3, c4, c5⟩ := (unhide S8).c
      have r0 := (unhide S8).v.c0
      have r1 := (unhide S8).v.c1
      have r2 := (unhide S8).v.c2
      have r3 := (unhide S8).v.c3
      have r4 := (unhide S8).v.c4
      have r5 := (unhide S8).v.c5
      have f0 := (unhide S8).v.free 0
      have f1 := (unhide S8).v.free 1
      have f2 := (unhide S8).v.free 2
      have f3 := (unhide S8).v.free 3
      have f4 := (unhide S8).v.free 4
      have f5 := (unhide S8).v.free 5
      go_wp2
      refine bodyPost_ret (v := .tuple #[.agg #[.slice (some ⟨z.ga, 0, none⟩) z.b.ac.length z.ca, .slice (some ⟨z.gi, 0, none⟩) z.b.ic.length z.ci, .slice (some ⟨z.gb, 0, none⟩) z.b.bs.length z.cb, .slice (some ⟨z.gl, 0, none⟩) z.b.ls.length z.cl, .slice (some ⟨z.gt, 0, none⟩) z.b.ts.length z.ct, .int .i64 z.b.lot], .int .i64 0, .int .i64 4]) (by simp [results, Tryz.results21, go_sem, r0, r1, r2, r3, r4, r5]) rfl (.inr ⟨unhide TT, z, 0, 4, unhide IZ, rfl, ?_, ?_⟩)
      · exact ow_six (unhide OZ) (off_lo (unhide LZ) zl) _ _ _ _ _ _
      · exact six (unhide S8).b (by omega) _ _ _ _ _ _
  clear hK1 hK2
  obtain ⟨m1, m2, Z⟩ := Z
  have K3IN := hide (show K3 = 1 ∨ K3 = 2 from by
    have a := unhide KIN
    have b := unhide NZ
    have c := unhide hK3
    omega)
  have m3 := Z
  all_goals
    go_wp2_with fail
    refine (SCopy.sCopy _ x (unhide S2).r).mono ?_
    rintro e w3 ⟨z, hz, rfl, oz, bb⟩
    have S3 := hide ((unhide S2).step bb)
    have OZ := hide oz
    have HZ := hide hz
    clear bb oz hz
    clear c0 c1 c2 c3 c4 c5 r0 r1 r2 r3 r4 r5 f0 f1 f2 f3 f4 f5
    go_wp2_with fail
    refine (Shorts.sPair _ fa fb fi fq (unhide TT).2.2.2.2.1.1 (unhide TT).2.2.2.2.1.2).mono ?_
    rintro e w4 ⟨gL, rfl, hgL, aL, bb⟩
    have S4 := hide ((unhide S3).step bb)
    have OZ4 := hide ((unhide OZ).below bb (Nat.le_refl _))
    have AL := hide aL
    clear bb aL OZ
    go_wp2_with fail
    refine (sPost w4 w2.heap.size z gL 2 (pairL fa fb fi fq) (unhide OZ4) (by rw [unhide HZ]; exact unhide LI) (by rw [unhide HZ]; exact unhide SM) (by simp [pairL]) hgL (unhide AL) (pair_formed (unhide TT).2.1 (unhide TT).2.2.1 (unhide TT).2.2.2.1 (unhide TT).2.2.2.2.1.1 (unhide TT).2.2.2.2.1.2) (pair_even _ _ _ _)).mono ?_
    rintro e w5 ⟨y1, d1, hp, rfl, o1, bb⟩
    rw [unhide HZ] at hp
    have HP := hide hp
    have S5 := hide ((unhide S4).step bb)
    have S6 := hide ((unhide S5).step (one_more w5 (.cells #[.slice (some ⟨y1.ga, 0, none⟩) y1.b.ac.length y1.ca, .slice (some ⟨y1.gi, 0, none⟩) y1.b.ic.length y1.ci, .slice (some ⟨y1.gb, 0, none⟩) y1.b.bs.length y1.cb, .slice (some ⟨y1.gl, 0, none⟩) y1.b.ls.length y1.cl, .slice (some ⟨y1.gt, 0, none⟩) y1.b.ts.length y1.ct, .int .i64 y1.b.lot] 37)))
    have O15 := hide o1
    have O1 := hide (ow_alloc o1 (.cells #[.slice (some ⟨y1.ga, 0, none⟩) y1.b.ac.length y1.ca, .slice (some ⟨y1.gi, 0, none⟩) y1.b.ic.length y1.ci, .slice (some ⟨y1.gb, 0, none⟩) y1.b.bs.length y1.cb, .slice (some ⟨y1.gl, 0, none⟩) y1.b.ls.length y1.cl, .slice (some ⟨y1.gt, 0, none⟩) y1.b.ts.length y1.ct, .int .i64 y1.b.lot] 37))
    have V6 := hide (Box.made (w := w5) (base := w.heap.size) (g := w5.heap.size) (.slice (some ⟨y1.ga, 0, none⟩) y1.b.ac.length y1.ca) (.slice (some ⟨y1.gi, 0, none⟩) y1.b.ic.length y1.ci) (.slice (some ⟨y1.gb, 0, none⟩) y1.b.bs.length y1.cb) (.slice (some ⟨y1.gl, 0, none⟩) y1.b.ls.length y1.cl) (.slice (some ⟨y1.gt, 0, none⟩) y1.b.ts.length y1.ct) (.int .i64 y1.b.lot) (unhide S5).b.size rfl)
    have l5 := (unhide S5).v.lt.2
    clear bb hp o1 AL hgL OZ4 HZ
    by_cases z1 : d1 = 0
    · subst z1
      by_cases k3 : K3 = 2
      · have k3b : (K3 == 2) = true := eq_true k3
        go_wp2_with fail
        generalize w5.alloc (.cells #[.slice (some ⟨y1.ga, 0, none⟩) y1.b.ac.length y1.ca, .slice (some ⟨y1.gi, 0, none⟩) y1.b.ic.length y1.ci, .slice (some ⟨y1.gb, 0, none⟩) y1.b.bs.length y1.cb, .slice (some ⟨y1.gl, 0, none⟩) y1.b.ls.length y1.cl, .slice (some ⟨y1.gt, 0, none⟩) y1.b.ts.length y1.ct, .int .i64 y1.b.lot] 37) = w6 at *
        refine (SCarry.sCarry w6 w2.heap.size y1 fa fb fi fq fk (unhide O1) (by rw [(posted_lot (unhide HP)).1]; exact (unhide LI).2.2.2.2.2) (posted_small (unhide HP) (unhide SM))).mono ?_
        rintro e w7 ⟨y2, t2, d2, ho, rfl, o2, bb⟩
        have S7 := hide ((unhide S6).step bb)
        have V7 := hide ((unhide V6).below bb (unhide V6).lt.2)
        have O2 := hide o2
        have HO := hide ho
        have KI := hide (show kindOf x.b.ic fi ≠ 1 from by have := unhide hK3; omega)
        clear bb o2 ho
        have a0 := (unhide V7).c0
        have a1 := (unhide V7).c1
        have a2 := (unhide V7).c2
        have a3 := (unhide V7).c3
        have a4 := (unhide V7).c4
        have a5 := (unhide V7).c5
        have g0 := (unhide V7).free 0
        have g1 := (unhide V7).free 1
        have g2 := (unhide V7).free 2
        have g3 := (unhide V7).free 3
        have g4 := (unhide V7).free 4
        have g5 := (unhide V7).free 5
        obtain ⟨c0, c1, c2, c3, c4, c5⟩ := (unhide S7).c
        have r0 := (unhide S7).v.c0
        have r1 := (unhide S7).v.c1
        have r2 := (unhide S7).v.c2
        have r3 := (unhide S7).v.c3
        have r4 := (unhide S7).v.c4
        have r5 := (unhide S7).v.c5
        have f0 := (unhide S7).v.free 0
        have f1 := (unhide S7).v.free 1
        have f2 := (unhide S7).v.free 2
        have f3 := (unhide S7).v.free 3
        have f4 := (unhide S7).v.free 4
        have f5 := (unhide S7).v.free 5
        have l6 : w.heap.size + 1 ≠ w5.heap.size := by omega
        have l7 : w.heap.size ≠ w5.heap.size := by omega
        have F1 := hide (off_box (unhide O2) (unhide S7).v)
        have F2 := hide (off_box (unhide O2) (unhide V7))
        by_cases z2 : d2 = 0
        · subst z2
          have IZ := hide (show IsMove x.b fa fb fi fq fk y2.b t2 0 from by
            obtain ⟨b2, k2, c2, ht, ⟨hne, _, hc⟩ | ⟨rfl, ho, rfl⟩⟩ := unhide HO
            · exact absurd hc.symm hne
            · exact .inr (.inr ⟨unhide NZ, unhide NK, y1.b, 0, unhide HP, .inr (.inr ⟨rfl, unhide KI, b2, _, 0, ht, .inr ⟨rfl, y2.b, 0, ho, .inr ⟨rfl, rfl, rfl, rfl⟩⟩⟩)⟩))
          go_wp2
          refine to_wb (fun W => Box W w.heap.size (w.heap.size + 1) (.slice (some ⟨y2.ga, 0, none⟩) y2.b.ac.length y2.ca) (.slice (some ⟨y2.gi, 0, none⟩) y2.b.ic.length y2.ci) (.slice (some ⟨y2.gb, 0, none⟩) y2.b.bs.length y2.cb) (.slice (some ⟨y2.gl, 0, none⟩) y2.b.ls.length y2.cl) (.slice (some ⟨y2.gt, 0, none⟩) y2.b.ts.length y2.ct) (.int .i64 y2.b.lot) ∧ Below w.heap.size w W ∧ Ow W w.heap.size y2) ?_ ?_
          · exact ⟨(box_six ((unhide S7).v.kept (box_six (unhide V7) _ _ _ _ _ _).2 (fun e => by injection e; omega)) _ _ _ _ _ _).1, six (six (unhide S7).b (by omega) _ _ _ _ _ _) (by omega) _ _ _ _ _ _, (ow_six (ow_six (unhide O2) (unhide F2) _ _ _ _ _ _) (unhide F1) _ _ _ _ _ _).rebase (unhide S2).b.size⟩
          rintro W ⟨X, B, OW⟩
          have p0 := X.c0
          have p1 := X.c1
          have p2 := X.c2
          have p3 := X.c3
          have p4 := X.c4
          have p5 := X.c5
          exact bodyPost_ret (v := .tuple #[.agg #[.slice (some ⟨y2.ga, 0, none⟩) y2.b.ac.length y2.ca, .slice (some ⟨y2.gi, 0, none⟩) y2.b.ic.length y2.ci, .slice (some ⟨y2.gb, 0, none⟩) y2.b.bs.length y2.cb, .slice (some ⟨y2.gl, 0, none⟩) y2.b.ls.length y2.cl, .slice (some ⟨y2.gt, 0, none⟩) y2.b.ts.length y2.ct, .int .i64 y2.b.lot], .int .i64 t2, .int .i64 0]) (by simp [results, Tryz.results21, go_sem, p0, p1, p2, p3, p4, p5]) rfl (.inr ⟨unhide TT, y2, t2, 0, unhide IZ, rfl, OW, B⟩)
        · have z2c : (d2 != 0) = true := ne_true z2
          have IZ2 := hide (show IsMove x.b fa fb fi fq fk x.b 0 d2 from by
            obtain ⟨b2, k2, c2, ht, ⟨hne, _, rfl⟩ | ⟨rfl, ho, rfl⟩⟩ := unhide HO
            · exact .inr (.inr ⟨unhide NZ, unhide NK, y1.b, 0, unhide HP, .inr (.inr ⟨rfl, unhide KI, b2, k2, _, ht, .inl ⟨hne, rfl, rfl, rfl⟩⟩)⟩)
            · exact .inr (.inr ⟨unhide NZ, unhide NK, y1.b, 0, unhide HP, .inr (.inr ⟨rfl, unhide KI, b2, _, 0, ht, .inr ⟨rfl, y2.b, d2, ho, .inl ⟨z2, rfl, rfl, rfl⟩⟩⟩)⟩))
          clear z2
          have T8 := hide (SIssue.SR.grown (unhide HR) (unhide S7) (box_six (unhide V7) (.slice (some ⟨y2.ga, 0, none⟩) y2.b.ac.length y2.ca) (.slice (some ⟨y2.gi, 0, none⟩) y2.b.ic.length y2.ci) (.slice (some ⟨y2.gb, 0, none⟩) y2.b.bs.length y2.cb) (.slice (some ⟨y2.gl, 0, none⟩) y2.b.ls.length y2.cl) (.slice (some ⟨y2.gt, 0, none⟩) y2.b.ts.length y2.ct) (.int .i64 y2.b.lot)).2 (by omega))
          go_wp2_with fail
          refine (SCopy.sCopy _ x (unhide T8).r).mono ?_
          rintro e w8 ⟨z, hz, rfl, oz, bb⟩
          have S8 := hide ((unhide T8).step bb)
          have OZ := hide (oz.rebase (unhide T8).b.size)
          have LZ := hide (ow_lo oz)
          have zl := (unhide T8).v.lt.2
          have IZ := hide (show IsMove x.b fa fb fi fq fk z.b 0 d2 from by rw [hz]; exact (unhide IZ2))
          clear bb oz hz
          clear c0 c1 c2 c3 c4 c5 r0 r1 r2 r3 r4 r5 f0 f1 f2 f3 f4 f5
          obtain ⟨c0, c1, c2, c3, c4, c5⟩ := (unhide S8).c
          have r0 := (unhide S8).v.c0
          have r1 := (unhide S8).v.c1
          have r2 := (unhide S8).v.c2
          have r3 := (unhide S8).v.c3
          have r4 := (unhide S8).v.c4
          have r5 := (unhide S8).v.c5
          have f0 := (unhide S8).v.free 0
          have f1 := (unhide S8).v.free 1
          have f2 := (unhide S8).v.free 2
          have f3 := (unhide S8).v.free 3
          have f4 := (unhide S8).v.free 4
          have f5 := (unhide S8).v.free 5
          go_wp2
          refine bodyPost_ret (v := .tuple #[.agg #[.slice (some ⟨z.ga, 0, none⟩) z.b.ac.length z.ca, .slice (some ⟨z.gi, 0, none⟩) z.b.ic.length z.ci, .slice (some ⟨z.gb, 0, none⟩) z.b.bs.length z.cb, .slice (some ⟨z.gl, 0, none⟩) z.b.ls.length z.cl, .slice (some ⟨z.gt, 0, none⟩) z.b.ts.length z.ct, .int .i64 z.b.lot], .int .i64 0, .int .i64 d2]) (by simp [results, Tryz.results21, go_sem, r0, r1, r2, r3, r4, r5]) rfl (.inr ⟨unhide TT, z, 0, d2, unhide IZ, rfl, ?_, ?_⟩)
          · exact ow_six (unhide OZ) (off_lo (unhide LZ) zl) _ _ _ _ _ _
          · exact six (unhide S8).b (by omega) _ _ _ _ _ _
      · have k3b : (K3 == 2) = false := eq_false k3
        have KI := hide (show kindOf x.b.ic fi = 1 from by have := unhide hK3; have := unhide K3IN; omega)
        have IZ := hide (show IsMove x.b fa fb fi fq fk y1.b 0 0 from .inr (.inr ⟨unhide NZ, unhide NK, y1.b, 0, unhide HP, .inr (.inl ⟨rfl, unhide KI, rfl, rfl, rfl⟩)⟩))
        have l6 : w.heap.size + 1 ≠ w5.heap.size := by omega
        have F1 := hide (off_box (unhide O15) (unhide S5).v)
        obtain ⟨c0, c1, c2, c3, c4, c5⟩ := (unhide S5).c
        have r0 := (unhide S5).v.c0
        have r1 := (unhide S5).v.c1
        have r2 := (unhide S5).v.c2
        have r3 := (unhide S5).v.c3
        have r4 := (unhide S5).v.c4
        have r5 := (unhide S5).v.c5
        have f0 := (unhide S5).v.free 0
        have f1 := (unhide S5).v.free 1
        have f2 := (unhide S5).v.free 2
        have f3 := (unhide S5).v.free 3
        have f4 := (unhide S5).v.free 4
        have f5 := (unhide S5).v.free 5
        go_wp2
        refine to_wb (fun W => Box W w.heap.size (w.heap.size + 1) (.slice (some ⟨y1.ga, 0, none⟩) y1.b.ac.length y1.ca) (.slice (some ⟨y1.gi, 0, none⟩) y1.b.ic.length y1.ci) (.slice (some ⟨y1.gb, 0, none⟩) y1.b.bs.length y1.cb) (.slice (some ⟨y1.gl, 0, none⟩) y1.b.ls.length y1.cl) (.slice (some ⟨y1.gt, 0, none⟩) y1.b.ts.length y1.ct) (.int .i64 y1.b.lot) ∧ Below w.heap.size w W ∧ Ow W w.heap.size y1) ?_ ?_
        · exact ⟨box_six_alloc (unhide S5).v _ _ _ _ _ _ _, six_alloc (unhide S5).b (unhide S5).b.size (by omega) _ _ _ _ _ _ _, ow_six_alloc (unhide O15) (unhide F1) (unhide S2).b.size _ _ _ _ _ _ _⟩
        rintro W ⟨X, B, OW⟩
        have p0 := X.c0
        have p1 := X.c1
        have p2 := X.c2
        have p3 := X.c3
        have p4 := X.c4
        have p5 := X.c5
        exact bodyPost_ret (v := .tuple #[.agg #[.slice (some ⟨y1.ga, 0, none⟩) y1.b.ac.length y1.ca, .slice (some ⟨y1.gi, 0, none⟩) y1.b.ic.length y1.ci, .slice (some ⟨y1.gb, 0, none⟩) y1.b.bs.length y1.cb, .slice (some ⟨y1.gl, 0, none⟩) y1.b.ls.length y1.cl, .slice (some ⟨y1.gt, 0, none⟩) y1.b.ts.length y1.ct, .int .i64 y1.b.lot], .int .i64 0, .int .i64 0]) (by simp [results, Tryz.results21, go_sem, p0, p1, p2, p3, p4, p5]) rfl (.inr ⟨unhide TT, y1, 0, 0, unhide IZ, rfl, OW, B⟩)
    · have z1b : (d1 == 0) = false := eq_false z1
      have z1c : (d1 != 0) = true := ne_true z1
      have IZ1 := hide (show IsMove x.b fa fb fi fq fk x.b 0 d1 from .inr (.inr ⟨unhide NZ, unhide NK, y1.b, d1, unhide HP, .inl ⟨z1, rfl, rfl, rfl⟩⟩))
      clear z1
      obtain ⟨c0, c1, c2, c3, c4, c5⟩ := (unhide S6).c
      have r0 := (unhide S6).v.c0
      have r1 := (unhide S6).v.c1
      have r2 := (unhide S6).v.c2
      have r3 := (unhide S6).v.c3
      have r4 := (unhide S6).v.c4
      have r5 := (unhide S6).v.c5
      have f0 := (unhide S6).v.free 0
      have f1 := (unhide S6).v.free 1
      have f2 := (unhide S6).v.free 2
      have f3 := (unhide S6).v.free 3
      have f4 := (unhide S6).v.free 4
      have f5 := (unhide S6).v.free 5
      go_wp2_with fail
      refine (SCopy.sCopy _ x (unhide S6).r).mono ?_
      rintro e w8 ⟨z, hz, rfl, oz, bb⟩
      have S8 := hide ((unhide S6).step bb)
      have OZ := hide (oz.rebase (unhide S6).b.size)
      have LZ := hide (ow_lo oz)
      have zl := (unhide S6).v.lt.2
      have IZ := hide (show IsMove x.b fa fb fi fq fk z.b 0 d1 from by rw [hz]; exact (unhide IZ1))
      clear bb oz hz
      clear c0 c1 c2 c3 c4 c5 r0 r1 r2 r3 r4 r5 f0 f1 f2 f3 f4 f5
      obtain ⟨c0, c1, c2, c3, c4, c5⟩ := (unhide S8).c
      have r0 := (unhide S8).v.c0
      have r1 := (unhide S8).v.c1
      have r2 := (unhide S8).v.c2
      have r3 := (unhide S8).v.c3
      have r4 := (unhide S8).v.c4
      have r5 := (unhide S8).v.c5
      have f0 := (unhide S8).v.free 0
      have f1 := (unhide S8).v.free 1
      have f2 := (unhide S8).v.free 2
      have f3 := (unhide S8).v.free 3
      have f4 := (unhide S8).v.free 4
      have f5 := (unhide S8).v.free 5
      go_wp2
      refine bodyPost_ret (v := .tuple #[.agg #[.slice (some ⟨z.ga, 0, none⟩) z.b.ac.length z.ca, .slice (some ⟨z.gi, 0, none⟩) z.b.ic.length z.ci, .slice (some ⟨z.gb, 0, none⟩) z.b.bs.length z.cb, .slice (some ⟨z.gl, 0, none⟩) z.b.ls.length z.cl, .slice (some ⟨z.gt, 0, none⟩) z.b.ts.length z.ct, .int .i64 z.b.lot], .int .i64 0, .int .i64 d1]) (by simp [results, Tryz.results21, go_sem, r0, r1, r2, r3, r4, r5]) rfl (.inr ⟨unhide TT, z, 0, d1, unhide IZ, rfl, ?_, ?_⟩)
      · exact ow_six (unhide OZ) (off_lo (unhide LZ) zl) _ _ _ _ _ _
      · exact six (unhide S8).b (by omega) _ _ _ _ _ _

end Go.Proofs.YtaegpoblmldhfaaGreat.SMove

/- The program's move: what it does to the books that it works on. -/
namespace Go.Proofs.YtaegpoblmldhfaaGreat.IMove
open Go.ChangeShapes Go.WideShapes Go.ChangeAt Go.RowKit BMem Bks ILists BHelp Ans ICopied ICmdB IHave SBk ITakeBk
open SMove (ToldM)
open SCarry (took_lot)
open SIssue (posted_small posted_lot ne_true ne_false eq_true eq_false)
open IBalsFit (one_more all_one)
open ITrade (at_new)
open Lots (Says says_of NoOk)
open Bals (T3)
open Tup5 (T5)
set_option linter.unusedVariables false
set_option linter.unusedSimpArgs false

/-- What the program's move answers: where it is refused, what it tells does not matter. -/
def MoveP (b : Bk) (fa fb fi fq fk : Int) (b' : Bk) (t c : Int) : Prop := ∃ t', IsMove b fa fb fi fq fk b' t' c ∧ (c = 0 → t = t')
theorem move_done {b b' : Bk} {fa fb fi fq fk t c : Int} (h : MoveP b fa fb fi fq fk b' t c) (hc : c = 0) : IsMove b fa fb fi fq fk b' t c := by
  obtain ⟨t', h1, h2⟩ := h
  rw [h2 hc]
  exact h1
theorem move_not {b b' : Bk} {fa fb fi fq fk t c : Int} (h : MoveP b fa fb fi fq fk b' t c) (hc : c ≠ 0) : IsMove b fa fb fi fq fk b 0 c := by
  obtain ⟨t', h, _⟩ := h
  rcases h with ⟨h, rfl, rfl, rfl⟩ | ⟨h, k, rfl, rfl, rfl⟩ | ⟨h, k, b1, c1, hp, ⟨h1, rfl, rfl, rfl⟩ | ⟨h1, h2, rfl, rfl, rfl⟩ | ⟨h1, h2, b2, k2, c2, ht, ⟨h3, rfl, rfl, rfl⟩ | ⟨h3, b3, c3, ho, ⟨h4, rfl, rfl, rfl⟩ | ⟨h4, rfl, rfl, rfl⟩⟩⟩⟩
  · exact .inl ⟨h, rfl, rfl, rfl⟩
  · exact .inr (.inl ⟨h, k, rfl, rfl, rfl⟩)
  · exact .inr (.inr ⟨h, k, b1, _, hp, .inl ⟨h1, rfl, rfl, rfl⟩⟩)
  · exact absurd rfl hc
  · exact .inr (.inr ⟨h, k, b1, c1, hp, .inr (.inr ⟨h1, h2, b2, k2, _, ht, .inl ⟨h3, rfl, rfl, rfl⟩⟩)⟩)
  · exact .inr (.inr ⟨h, k, b1, c1, hp, .inr (.inr ⟨h1, h2, b2, k2, c2, ht, .inr ⟨h3, b3, _, ho, .inl ⟨h4, rfl, rfl, rfl⟩⟩⟩)⟩)
  · exact absurd rfl hc

set_option maxRecDepth 100000 in
set_option maxHeartbeats 8000000 in
theorem iMove (u : World) (z : Bx) (base g : Nat) (fa fb fi fq fk : Int) (told : ToldM z.b fa fb fi fq fk) (V : Var u base g z) (O : Ow u (base + 4) z) (hg : g < base + 4) :
    Calls Tryz.prog 82 #[.pointer (some ⟨g, 0, none⟩), .int .i64 fa, .int .i64 fb, .int .i64 fi, .int .i64 fq, .int .i64 fk] u (Does (MoveP z.b fa fb fi fq fk) base g u) := by
  obtain ⟨b0, h0⟩ := says_of (∀ y ∈ [fa, fb], kindOf z.b.ac y ≠ 0)
  obtain ⟨b1, h1⟩ := says_of (∀ y ∈ [fi], kindOf z.b.ic y ≠ 0)
  obtain ⟨t1, h3⟩ := says_of (kindOf z.b.ac fa = 1)
  obtain ⟨t2, h2⟩ := says_of (kindOf z.b.ac fb = 1)
  have H0 := hide h0
  have H1 := hide h1
  have H2 := hide h2
  have H3 := hide h3
  have TT := hide told
  have LI := hide told.1.1
  have SM := hide (ok_small told.1)
  have S0 := hide (DW.start V O (ok_small told.1))
  have S1 := hide ((unhide S0).step (one_more u (.cells #[.int .i64 fa, .int .i64 fb] 3)))
  have d0 := Box.c0 V
  have d1 := Box.c1 V
  have d2 := Box.c2 V
  have d3 := Box.c3 V
  have d4 := Box.c4 V
  have d5 := Box.c5 V
  clear h0 h1 h2 h3 told V O
  go_enter Tryz.func82, Tryz.ntmps82
  go_wp2_with fail
  refine (iHaveAccounts _ z u.heap.size 2 2 [fa, fb] b0 (unhide S1).r (unhide LI).1 rfl (by omega) (by simp) (at_new _ [fa, fb] _ rfl rfl) (unhide H0)).mono ?_
  rintro e w1 ⟨rfl, bb⟩
  have S2 := hide ((unhide S1).step bb)
  clear bb d0 d1 d2 d3 d4 d5
  cases b0
  · have NZ := hide (show kindOf z.b.ac fa = 0 ∨ kindOf z.b.ac fb = 0 ∨ kindOf z.b.ic fi = 0 from by
      have := (unhide H0).no
      simp only [List.mem_cons, List.not_mem_nil, or_false, forall_eq_or_imp, forall_eq] at this
      omega)
    go_wp2
    go_ret2
    exact ⟨z.b, 0, 3, ⟨0, .inl ⟨unhide NZ, rfl, rfl, rfl⟩, fun _ => rfl⟩, rfl, .inr ⟨by omega, Var.any (unhide S2).v⟩, (unhide S2).grown⟩
  have d0 := (unhide S2).v.c0
  have d1 := (unhide S2).v.c1
  have d2 := (unhide S2).v.c2
  have d3 := (unhide S2).v.c3
  have d4 := (unhide S2).v.c4
  have d5 := (unhide S2).v.c5
  have S3 := hide ((unhide S2).step (one_more w1 (.cells #[.int .i64 fi] 3)))
  go_wp2_with fail
  refine (iHaveInstrs _ z w1.heap.size 1 1 [fi] b1 (unhide S3).r (unhide LI).2.1 rfl (by omega) (by simp) (at_new _ [fi] _ rfl rfl) (unhide H1)).mono ?_
  rintro e w2 ⟨rfl, bb⟩
  have S4 := hide ((unhide S3).step bb)
  clear bb d0 d1 d2 d3 d4 d5 S3 S1
  cases b1
  · have NZ := hide (show kindOf z.b.ac fa = 0 ∨ kindOf z.b.ac fb = 0 ∨ kindOf z.b.ic fi = 0 from by
      have := (unhide H1).no
      simp only [List.mem_cons, List.not_mem_nil, or_false, forall_eq_or_imp, forall_eq] at this
      omega)
    go_wp2
    go_ret2
    exact ⟨z.b, 0, 3, ⟨0, .inl ⟨unhide NZ, rfl, rfl, rfl⟩, fun _ => rfl⟩, rfl, .inr ⟨by omega, Var.any (unhide S4).v⟩, (unhide S4).grown⟩
  have NZ := hide (show ¬ (kindOf z.b.ac fa = 0 ∨ kindOf z.b.ac fb = 0 ∨ kindOf z.b.ic fi = 0) from by
    have a := (unhide H0).yes
    have b := (unhide H1).yes
    simp only [List.mem_cons, List.not_mem_nil, or_false, forall_eq_or_imp, forall_eq] at a b
    omega)
  clear H0 H1 S2
  have d0 := (unhide S4).v.c0
  have d1 := (unhide S4).v.c1
  have d2 := (unhide S4).v.c2
  have d3 := (unhide S4).v.c3
  have d4 := (unhide S4).v.c4
  have d5 := (unhide S4).v.c5
  go_wp2_with fail
  refine (IRead.iHolder _ z fa t1 (unhide S4).r (unhide LI).1 (unhide H3)).mono ?_
  rintro e w3 ⟨rfl, bb⟩
  have S5 := hide ((unhide S4).step bb)
  clear bb d0 d1 d2 d3 d4 d5 S4
  cases t1
  · have IZ := hide (show IsMove z.b fa fb fi fq fk z.b 0 4 from .inr (.inl ⟨unhide NZ, .inl (unhide H3).no, rfl, rfl, rfl⟩))
    go_wp2
    go_ret2
    exact ⟨z.b, 0, 4, ⟨0, unhide IZ, fun _ => rfl⟩, rfl, .inr ⟨by omega, Var.any (unhide S5).v⟩, (unhide S5).grown⟩
  have KA := hide (unhide H3).yes
  clear H3
  have d0 := (unhide S5).v.c0
  have d1 := (unhide S5).v.c1
  have d2 := (unhide S5).v.c2
  have d3 := (unhide S5).v.c3
  have d4 := (unhide S5).v.c4
  have d5 := (unhide S5).v.c5
  go_wp2_with fail
  refine (IRead.iHolder _ z fb t2 (unhide S5).r (unhide LI).1 (unhide H2)).mono ?_
  rintro e w4 ⟨rfl, bb⟩
  have S6 := hide ((unhide S5).step bb)
  clear bb d0 d1 d2 d3 d4 d5 S5
  cases t2
  · have IZ := hide (show IsMove z.b fa fb fi fq fk z.b 0 4 from .inr (.inl ⟨unhide NZ, .inr (.inl (unhide H2).no), rfl, rfl, rfl⟩))
    go_wp2
    go_ret2
    exact ⟨z.b, 0, 4, ⟨0, unhide IZ, fun _ => rfl⟩, rfl, .inr ⟨by omega, Var.any (unhide S6).v⟩, (unhide S6).grown⟩
  have KB := hide (unhide H2).yes
  clear H2
  by_cases k0 : fa = fb
  · have k0b : (fa == fb) = true := eq_true k0
    have IZ := hide (show IsMove z.b fa fb fi fq fk z.b 0 4 from .inr (.inl ⟨unhide NZ, .inr (.inr k0), rfl, rfl, rfl⟩))
    clear k0
    go_wp2
    go_ret2
    exact ⟨z.b, 0, 4, ⟨0, unhide IZ, fun _ => rfl⟩, rfl, .inr ⟨by omega, Var.any (unhide S6).v⟩, (unhide S6).grown⟩
  · have k0b : (fa == fb) = false := eq_false k0
    have NK := hide (show ¬ (kindOf z.b.ac fa ≠ 1 ∨ kindOf z.b.ac fb ≠ 1 ∨ fa = fb) from by
      have a := unhide KA
      have b := unhide KB
      omega)
    clear k0 KA KB
    go_wp2_with fail
    refine (Shorts.iGiven _ fa fb fi fq (unhide TT).2.2.2.2.1.1 (unhide TT).2.2.2.2.1.2).mono ?_
    rintro e w6 ⟨gL, rfl, hgL, aL, bb⟩
    have S8 := hide ((unhide S6).step bb)
    have AL := hide aL
    clear bb aL
    go_wp2_with fail
    refine (IPostB.iPost w6 z base g gL 2 (pairL fa fb fi fq) (unhide LI) (unhide SM) (unhide S8).v (unhide S8).o hg (by simp [pairL]) hgL (unhide AL) (pair_formed (unhide TT).2.1 (unhide TT).2.2.1 (unhide TT).2.2.2.1 (unhide TT).2.2.2.2.1.1 (unhide TT).2.2.2.2.1.2) (pair_even _ _ _ _)).mono ?_
    rintro e w7 ⟨y, c1, hp, rfl, v1, o1, gr⟩
    have HP := hide hp
    have V1 := hide v1
    have O1 := hide o1
    have GR := hide (Pairs.grown_trans (unhide S8).grown gr)
    have SY := hide (posted_small hp (unhide SM))
    have PL := hide (posted_lot hp)
    clear hp v1 o1 gr AL hgL S8
    by_cases z1 : c1 = 0
    rotate_left
    · have z1b : (c1 != 0) = true := ne_true z1
      have HN := hide z1
      clear z1
      go_wp2
      go_ret2
      exact ⟨z.b, 0, c1, ⟨0, .inr (.inr ⟨unhide NZ, unhide NK, y.b, c1, unhide HP, .inl ⟨unhide HN, rfl, rfl, rfl⟩⟩), fun _ => rfl⟩, rfl, .inr ⟨unhide HN, Var.any (unhide V1)⟩, unhide GR⟩
    subst z1
    obtain ⟨t4, h4⟩ := says_of (kindOf y.b.ic fi = 1)
    have H4 := hide h4
    have D0 := hide (DW.start (unhide V1) (unhide O1) (unhide SY))
    have d0 := (unhide D0).v.c0
    have d1 := (unhide D0).v.c1
    have d2 := (unhide D0).v.c2
    have d3 := (unhide D0).v.c3
    have d4 := (unhide D0).v.c4
    have d5 := (unhide D0).v.c5
    clear h4 V1 O1
    go_wp2_with fail
    refine (IRead.iCash _ y fi t4 (unhide D0).r (by rw [(unhide PL).2.2.2]; exact (unhide LI).2.1) (unhide H4)).mono ?_
    rintro e w8 ⟨rfl, bb⟩
    have D1 := hide ((unhide D0).step bb)
    clear bb d0 d1 d2 d3 d4 d5 D0
    cases t4
    rotate_left
    · have KI := hide (show kindOf z.b.ic fi = 1 from by have := (unhide H4).yes; rw [(unhide PL).2.2.2] at this; exact this)
      go_wp2
      go_ret2
      exact ⟨y.b, 0, 0, ⟨0, .inr (.inr ⟨unhide NZ, unhide NK, y.b, 0, unhide HP, .inr (.inl ⟨rfl, unhide KI, rfl, rfl, rfl⟩)⟩), fun _ => rfl⟩, rfl, .inl ⟨rfl, y, rfl, (unhide D1).v, (unhide D1).o⟩, Pairs.grown_trans (unhide GR) (unhide D1).grown⟩
    have KN := hide (show kindOf z.b.ic fi ≠ 1 from by have := (unhide H4).no; rw [(unhide PL).2.2.2] at this; exact this)
    go_wp2_with fail
    refine (ITakeBk.iTakeBk w8 y base g fa fi fq fk (unhide SY) (unhide D1).v (unhide D1).o hg).mono ?_
    rintro e w9 ⟨b2, k2, c2, ht, rfl, hz, gr⟩
    have HT := hide ht
    have G2 := hide (Pairs.grown_trans (Pairs.grown_trans (unhide GR) (unhide D1).grown) gr)
    rcases hz with ⟨rfl, y2, v2, hy, vl, ol⟩ | ⟨hne, ab⟩
    rotate_left
    · have cb : (c2 != 0) = true := ne_true hne
      have HN := hide hne
      have AB := hide ab
      clear hne ab ht gr
      go_wp2
      go_ret2
      exact ⟨z.b, 0, c2, ⟨0, .inr (.inr ⟨unhide NZ, unhide NK, y.b, 0, unhide HP, .inr (.inr ⟨rfl, unhide KN, b2, k2, c2, unhide HT, .inl ⟨unhide HN, rfl, rfl, rfl⟩⟩)⟩), fun _ => rfl⟩, rfl, .inr ⟨unhide HN, unhide AB⟩, unhide G2⟩
    have HY := hide hy
    have VL := hide vl
    have OL := hide ol
    have TL := hide (took_lot ht (unhide SY))
    clear ht gr hy vl ol
    go_wp2_with fail
    refine (IOpenBk.iOpenBk w9 y2 v2 base g fb fi fq k2 (by rw [unhide HY, (unhide TL).1, (unhide PL).1]; exact (unhide LI).2.2.2.2.2) (by rw [unhide HY]; exact (unhide TL).2) (unhide VL) (unhide OL) hg).mono ?_
    rintro e w10 ⟨b3, c3, ho, rfl, hz, gr⟩
    rw [unhide HY] at ho
    have HO := hide ho
    have HZ := hide hz
    have G3 := hide (Pairs.grown_trans (unhide G2) gr)
    clear ho hz gr
    go_wp2
    go_ret2
    rcases unhide HZ with ⟨rfl, y3, hy, v3, o3⟩ | ⟨hne, ab⟩
    · exact ⟨b3, k2, 0, ⟨k2, .inr (.inr ⟨unhide NZ, unhide NK, y.b, 0, unhide HP, .inr (.inr ⟨rfl, unhide KN, b2, k2, 0, unhide HT, .inr ⟨rfl, b3, 0, unhide HO, .inr ⟨rfl, rfl, rfl, rfl⟩⟩⟩)⟩), fun _ => rfl⟩, rfl, .inl ⟨rfl, y3, hy, v3, o3⟩, unhide G3⟩
    · exact ⟨z.b, k2, c3, ⟨0, .inr (.inr ⟨unhide NZ, unhide NK, y.b, 0, unhide HP, .inr (.inr ⟨rfl, unhide KN, b2, k2, 0, unhide HT, .inr ⟨rfl, b3, c3, unhide HO, .inl ⟨hne, rfl, rfl, rfl⟩⟩⟩)⟩), fun e => absurd e hne⟩, rfl, .inr ⟨hne, ab⟩, unhide G3⟩

set_option maxRecDepth 100000 in
theorem iClosure (u : World) (z : Bx) (base g : Nat) (p1 p2 p3 p4 p5 : Addr) (fa fb fi fq fk : Int) (h1 : u.cell? p1 = some (.int .i64 fa)) (h2 : u.cell? p2 = some (.int .i64 fb)) (h3 : u.cell? p3 = some (.int .i64 fi)) (h4 : u.cell? p4 = some (.int .i64 fq)) (h5 : u.cell? p5 = some (.int .i64 fk)) (told : ToldM z.b fa fb fi fq fk) (V : Var u base g z) (O : Ow u (base + 4) z) (hg : g < base + 4) :
    Calls Tryz.prog 81 #[.pointer (some ⟨g, 0, none⟩), .pointer (some p1), .pointer (some p2), .pointer (some p3), .pointer (some p4), .pointer (some p5)] u (Does (MoveP z.b fa fb fi fq fk) base g u) := by
  have V1 := hide V
  have O1 := hide O
  have TT := hide told
  clear V O told
  go_enter Tryz.func81, Tryz.ntmps81
  go_wp2_with fail
  refine (iMove u z base g fa fb fi fq fk (unhide TT) (unhide V1) (unhide O1) hg).mono ?_
  rintro e u' ⟨b', t, c, hI, rfl, hz, gr⟩
  have HI := hide hI
  have HZ := hide hz
  have GR := hide gr
  clear hI hz gr
  go_wp2
  go_ret2
  exact ⟨b', t, c, unhide HI, rfl, unhide HZ, unhide GR⟩

end Go.Proofs.YtaegpoblmldhfaaGreat.IMove

/- The program's move. -/
namespace Go.Proofs.YtaegpoblmldhfaaGreat.MoveTellI
open Go.ChangeShapes Go.WideShapes Go.ChangeAt Go.RowKit BMem Bks ILists BHelp Ans ICopied ICmdB IHave
open SIssue (ToldI six_alloc ow_six_alloc box_six_alloc to_wb off_box)
open SMove (ToldM AnsM)
open IMove (MoveP)
open IBalsFit (one_more all_one)
open ITrade (at_new)
open Lots (Says says_of NoOk)
set_option linter.unusedVariables false
set_option linter.unusedSimpArgs false

set_option maxRecDepth 100000 in
set_option maxHeartbeats 8000000 in
theorem iTell (w : World) (x : Bx) (fa fb fi fq fk : Int) (h : Rd w x) :
    Calls Tryz.prog 22 #[.agg #[.slice (some ⟨x.ga, 0, none⟩) x.b.ac.length x.ca, .slice (some ⟨x.gi, 0, none⟩) x.b.ic.length x.ci, .slice (some ⟨x.gb, 0, none⟩) x.b.bs.length x.cb, .slice (some ⟨x.gl, 0, none⟩) x.b.ls.length x.cl, .slice (some ⟨x.gt, 0, none⟩) x.b.ts.length x.ct, .int .i64 x.b.lot], .int .i64 fa, .int .i64 fb, .int .i64 fi, .int .i64 fq, .int .i64 fk] w (AnsM (ToldM x.b fa fb fi fq fk) (IsMove x.b fa fb fi fq fk) w) := by
  obtain ⟨b1, h1⟩ := says_of (∀ y ∈ [fa, fb, fi], NoOk y)
  obtain ⟨b2, h2⟩ := says_of (1 ≤ fq ∧ fq ≤ 1000000000000000)
  obtain ⟨b3, h3⟩ := says_of (1 ≤ fk ∧ fk ≤ 3)
  have HT := hide (show Says (b1 && (b2 && b3)) (NoOk fa ∧ NoOk fb ∧ NoOk fi ∧ (1 ≤ fq ∧ fq ≤ 1000000000000000) ∧ (1 ≤ fk ∧ fk ≤ 3)) from by
    have a := IssueTellI.says_and h1 (IssueTellI.says_and h2 h3)
    refine ⟨fun e => ?_, fun r => a.of ⟨?_, r.2.2.2.1, r.2.2.2.2⟩⟩
    · have := a.1 e
      exact ⟨this.1 fa (by simp), this.1 fb (by simp), this.1 fi (by simp), this.2.1, this.2.2⟩
    · intro y hy
      simp only [List.mem_cons, List.not_mem_nil, or_false] at hy
      rcases hy with rfl | rfl | rfl
      · exact r.1
      · exact r.2.1
      · exact r.2.2.1)
  have H1 := hide h1
  have H2 := hide h2
  have H3 := hide h3
  have S0 := hide (IssueTellI.TW.start (fa := fa) (fb := fb) (fi := fi) (fq := fq) (fk := fk) h)
  clear h1 h2 h3 h
  go_enter Tryz.func22, Tryz.ntmps22
  go_wp2_with fail
  have S1 := hide ((unhide S0).step (one_more _ (.cells #[.int .i64 fa, .int .i64 fb, .int .i64 fi] 3)))
  refine (iNumbers _ (w.heap.size + 1 + 1 + 1 + 1 + 1 + 1 + 1) 3 3 [fa, fb, fi] b1 rfl (by omega) (by simp) (at_new _ [fa, fb, fi] _ (by simp) rfl) (unhide H1)).mono ?_
  rintro e w1 ⟨rfl, bb⟩
  have S2 := hide ((unhide S1).step bb)
  clear bb S1 S0
  obtain ⟨c0, c1, c2, c3, c4, c5⟩ := (unhide S2).c
  have n1 := (unhide S2).n1
  have n2 := (unhide S2).n2
  have n3 := (unhide S2).n3
  have n4 := (unhide S2).n4
  have n5 := (unhide S2).n5
  have hmf : ∀ (fn : Fn) (first cp : Array Value) (w : World), (Instr.makeFunc fn first cp).run Tryz.prog w = .ok (.func fn first cp) w := fun _ _ _ _ => rfl
  have HF := hide (show Ok x.b → (NoOk fa ∧ NoOk fb ∧ NoOk fi ∧ (1 ≤ fq ∧ fq ≤ 1000000000000000) ∧ (1 ≤ fk ∧ fk ≤ 3)) → ∀ (u : World) (z : Bx), z.b = x.b → Var u w1.heap.size (w1.heap.size + 1) z → Ow u (w1.heap.size + 4) z → Below w1.heap.size w1 u → Calls Tryz.prog 81 (#[.pointer (some ⟨w1.heap.size + 1, 0, none⟩)] ++ #[.pointer (some ⟨w.heap.size + 1, 0, none⟩), .pointer (some ⟨w.heap.size + 1 + 1, 0, none⟩), .pointer (some ⟨w.heap.size + 1 + 1 + 1, 0, none⟩), .pointer (some ⟨w.heap.size + 1 + 1 + 1 + 1, 0, none⟩), .pointer (some ⟨w.heap.size + 1 + 1 + 1 + 1 + 1, 0, none⟩)]) u (Does (MoveP x.b fa fb fi fq fk) w1.heap.size (w1.heap.size + 1) u) from by
    intro ok ta u z hz V O bb
    have l := (unhide S2).v.lt
    have q := IMove.iClosure u z w1.heap.size (w1.heap.size + 1) ⟨w.heap.size + 1, 0, none⟩ ⟨w.heap.size + 1 + 1, 0, none⟩ ⟨w.heap.size + 1 + 1 + 1, 0, none⟩ ⟨w.heap.size + 1 + 1 + 1 + 1, 0, none⟩ ⟨w.heap.size + 1 + 1 + 1 + 1 + 1, 0, none⟩ fa fb fi fq fk ((bb.cell (p := ⟨w.heap.size + 1, 0, none⟩) (by simp <;> omega)).trans n1) ((bb.cell (p := ⟨w.heap.size + 1 + 1, 0, none⟩) (by simp <;> omega)).trans n2) ((bb.cell (p := ⟨w.heap.size + 1 + 1 + 1, 0, none⟩) (by simp <;> omega)).trans n3) ((bb.cell (p := ⟨w.heap.size + 1 + 1 + 1 + 1, 0, none⟩) (by simp <;> omega)).trans n4) ((bb.cell (p := ⟨w.heap.size + 1 + 1 + 1 + 1 + 1, 0, none⟩) (by simp <;> omega)).trans n5) (by rw [hz]; exact ⟨ok, ta⟩) V O (by omega)
    rw [hz] at q
    exact q)
  cases b1
  rotate_left
  go_wp2_with fail
  refine (IHave.iFrom 1 fq b2 _ (unhide H2)).mono ?_
  rintro e v1 ⟨rfl, hv⟩
  rw [hv]
  clear hv
  cases b2
  rotate_left
  go_wp2_with fail
  refine (IHave.iWay fk b3 _ (unhide H3)).mono ?_
  rintro e v2 ⟨rfl, hv⟩
  rw [hv]
  clear hv
  cases b3
  all_goals
    (clear H1 H2 H3
     go_wp2_with fail
     refine (ICmd.iCmd _ x _ (NoOk fa ∧ NoOk fb ∧ NoOk fi ∧ (1 ≤ fq ∧ fq ≤ 1000000000000000) ∧ (1 ≤ fk ∧ fk ≤ 3)) 81 _ (MoveP x.b fa fb fi fq fk) (unhide S2).r (unhide HT) (fun _ _ => rfl) (unhide HF)).mono ?_
     clear HF HT
     rintro e w3 (⟨N, rfl, bb⟩ | ⟨T, b', t, c, z, hP, hz, oz, bb⟩)
     · have S3 := hide ((unhide S2).step bb)
       have NN := hide (show ¬ (ToldM x.b fa fb fi fq fk) from fun hh => N ⟨hh.2, hh.1⟩)
       have l : w.heap.size + 1 + 1 + 1 + 1 + 1 + 1 < w1.heap.size := (unhide S2).v.lt.2
       have l3 : w.heap.size + 1 + 1 + 1 + 1 + 1 + 1 < w3.heap.size := (unhide S3).v.lt.2
       have l4 : w.heap.size + 1 + 1 + 1 + 1 + 1 + 1 ≠ w3.heap.size := by omega
       clear bb c0 c1 c2 c3 c4 c5 n1 n2 n3 n4 n5 N
       have r0 := (unhide S3).v.c0
       have r1 := (unhide S3).v.c1
       have r2 := (unhide S3).v.c2
       have r3 := (unhide S3).v.c3
       have r4 := (unhide S3).v.c4
       have r5 := (unhide S3).v.c5
       have f0 := (unhide S3).v.free 0
       have f1 := (unhide S3).v.free 1
       have f2 := (unhide S3).v.free 2
       have f3 := (unhide S3).v.free 3
       have f4 := (unhide S3).v.free 4
       have f5 := (unhide S3).v.free 5
       go_wp2
       refine to_wb (fun W => Box W w.heap.size (w.heap.size + 1 + 1 + 1 + 1 + 1 + 1) (.slice none 0 0) (.slice none 0 0) (.slice none 0 0) (.slice none 0 0) (.slice none 0 0) (.int .i64 0) ∧ Below w.heap.size w W) ?_ ?_
       · exact ⟨(box_six (unhide S3).v _ _ _ _ _ _).1, six (unhide S3).b (by omega) _ _ _ _ _ _⟩
       rintro W ⟨X, B⟩
       have g0 := X.c0
       have g1 := X.c1
       have g2 := X.c2
       have g3 := X.c3
       have g4 := X.c4
       have g5 := X.c5
       exact bodyPost_ret (v := .tuple #[.agg #[.slice none 0 0, .slice none 0 0, .slice none 0 0, .slice none 0 0, .slice none 0 0, .int .i64 0], .int .i64 0, .int .i64 1]) (by simp [results, Tryz.results22, go_sem, g0, g1, g2, g3, g4, g5]) rfl (.inl ⟨unhide NN, rfl, B⟩)
     · have S3 := hide ((unhide S2).step bb)
       have TT := hide (show ToldM x.b fa fb fi fq fk from ⟨T.2, T.1⟩)
       have l : w.heap.size + 1 + 1 + 1 + 1 + 1 + 1 < w1.heap.size := (unhide S2).v.lt.2
       have l3 : w.heap.size + 1 + 1 + 1 + 1 + 1 + 1 < w3.heap.size := (unhide S3).v.lt.2
       have l4 : w.heap.size + 1 + 1 + 1 + 1 + 1 + 1 ≠ w3.heap.size := by omega
       have OZ := hide oz
       have LZ := hide (ow_lo oz)
       have HP := hide hP
       clear bb c0 c1 c2 c3 c4 c5 n1 n2 n3 n4 n5 T oz hP
       have r0 := (unhide S3).v.c0
       have r1 := (unhide S3).v.c1
       have r2 := (unhide S3).v.c2
       have r3 := (unhide S3).v.c3
       have r4 := (unhide S3).v.c4
       have r5 := (unhide S3).v.c5
       have f0 := (unhide S3).v.free 0
       have f1 := (unhide S3).v.free 1
       have f2 := (unhide S3).v.free 2
       have f3 := (unhide S3).v.free 3
       have f4 := (unhide S3).v.free 4
       have f5 := (unhide S3).v.free 5
       rcases hz with ⟨q, hb, rfl⟩ | ⟨q, hb, rfl⟩
       · have IS := hide (show IsMove x.b fa fb fi fq fk z.b t c from by rw [hb]; exact IMove.move_done (unhide HP) q)
         clear q hb HP
         go_wp2
         refine to_wb (fun W => Box W w.heap.size (w.heap.size + 1 + 1 + 1 + 1 + 1 + 1) (.slice (some ⟨z.ga, 0, none⟩) z.b.ac.length z.ca) (.slice (some ⟨z.gi, 0, none⟩) z.b.ic.length z.ci) (.slice (some ⟨z.gb, 0, none⟩) z.b.bs.length z.cb) (.slice (some ⟨z.gl, 0, none⟩) z.b.ls.length z.cl) (.slice (some ⟨z.gt, 0, none⟩) z.b.ts.length z.ct) (.int .i64 z.b.lot) ∧ Below w.heap.size w W ∧ Ow W w.heap.size z) ?_ ?_
         · exact ⟨(box_six (unhide S3).v _ _ _ _ _ _).1, six (unhide S3).b (by omega) _ _ _ _ _ _, (ow_six (unhide OZ) (off_lo (unhide LZ) l) _ _ _ _ _ _).rebase (unhide S2).b.size⟩
         rintro W ⟨X, B, OW⟩
         have g0 := X.c0
         have g1 := X.c1
         have g2 := X.c2
         have g3 := X.c3
         have g4 := X.c4
         have g5 := X.c5
         exact bodyPost_ret (v := .tuple #[.agg #[.slice (some ⟨z.ga, 0, none⟩) z.b.ac.length z.ca, .slice (some ⟨z.gi, 0, none⟩) z.b.ic.length z.ci, .slice (some ⟨z.gb, 0, none⟩) z.b.bs.length z.cb, .slice (some ⟨z.gl, 0, none⟩) z.b.ls.length z.cl, .slice (some ⟨z.gt, 0, none⟩) z.b.ts.length z.ct, .int .i64 z.b.lot], .int .i64 t, .int .i64 c]) (by simp [results, Tryz.results22, go_sem, g0, g1, g2, g3, g4, g5]) rfl (.inr ⟨unhide TT, z, t, c, unhide IS, rfl, OW, B⟩)
       · have IS := hide (show IsMove x.b fa fb fi fq fk z.b 0 c from by rw [hb]; exact IMove.move_not (unhide HP) q)
         clear q hb HP
         go_wp2
         refine to_wb (fun W => Box W w.heap.size (w.heap.size + 1 + 1 + 1 + 1 + 1 + 1) (.slice (some ⟨z.ga, 0, none⟩) z.b.ac.length z.ca) (.slice (some ⟨z.gi, 0, none⟩) z.b.ic.length z.ci) (.slice (some ⟨z.gb, 0, none⟩) z.b.bs.length z.cb) (.slice (some ⟨z.gl, 0, none⟩) z.b.ls.length z.cl) (.slice (some ⟨z.gt, 0, none⟩) z.b.ts.length z.ct) (.int .i64 z.b.lot) ∧ Below w.heap.size w W ∧ Ow W w.heap.size z) ?_ ?_
         · exact ⟨(box_six (unhide S3).v _ _ _ _ _ _).1, six (unhide S3).b (by omega) _ _ _ _ _ _, (ow_six (unhide OZ) (off_lo (unhide LZ) l) _ _ _ _ _ _).rebase (unhide S2).b.size⟩
         rintro W ⟨X, B, OW⟩
         have g0 := X.c0
         have g1 := X.c1
         have g2 := X.c2
         have g3 := X.c3
         have g4 := X.c4
         have g5 := X.c5
         exact bodyPost_ret (v := .tuple #[.agg #[.slice (some ⟨z.ga, 0, none⟩) z.b.ac.length z.ca, .slice (some ⟨z.gi, 0, none⟩) z.b.ic.length z.ci, .slice (some ⟨z.gb, 0, none⟩) z.b.bs.length z.cb, .slice (some ⟨z.gl, 0, none⟩) z.b.ls.length z.cl, .slice (some ⟨z.gt, 0, none⟩) z.b.ts.length z.ct, .int .i64 z.b.lot], .int .i64 0, .int .i64 c]) (by simp [results, Tryz.results22, go_sem, g0, g1, g2, g3, g4, g5]) rfl (.inr ⟨unhide TT, z, 0, c, unhide IS, rfl, OW, B⟩))

end Go.Proofs.YtaegpoblmldhfaaGreat.MoveTellI

