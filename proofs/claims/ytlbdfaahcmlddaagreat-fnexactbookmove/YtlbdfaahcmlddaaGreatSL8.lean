/- Texts of one proof, one behind the other: IMove, MoveTellI. -/
import Derived.Test.YtlbdfaahcmlddaaGreatRows
import Derived.Test.YtlbdfaahcmlddaaGreatSA1
import Derived.Test.YtlbdfaahcmlddaaGreatSA2
import Derived.Test.YtlbdfaahcmlddaaGreatSL3
import Derived.Test.YtlbdfaahcmlddaaGreatSL4
import Derived.Test.YtlbdfaahcmlddaaGreatSL5
import Derived.Test.YtlbdfaahcmlddaaGreatSL6
import Derived.Test.YtlbdfaahcmlddaaGreatSL7
set_option linter.unusedVariables false
set_option linter.unusedSimpArgs false
namespace Go.Proofs.YtlbdfaahcmlddaaGreat.IMove
open Go.ChangeShapes Go.WideShapes Go.ChangeAt Go.RowKit BMem Bks ILists BHelp Ans ICopied ICmdB IHave SBk ITakeBk
open SMove (ToldM)
open SCarry (took_lot)
open SIssue (posted_small posted_lot ne_true ne_false eq_true eq_false)
open IBalsFit (one_more all_one)
open ITrade (at_new)
open Lots (Says says_of NoOk)
open Bals (T3)
open Tup5 (T5)
/-- What the program's move answers: where it is refused, what it tells does not matter. -/
def MoveP (b : Bk) (fa fb fi fq fk : Int) (b' : Bk) (t c : Int) : Prop := ∃ t', IsMove b fa fb fi fq fk b' t' c ∧ (c = 0 → t = t')
theorem move_done {b b' : Bk} {fa fb fi fq fk t c : Int} (h : MoveP b fa fb fi fq fk b' t c) (hc : c = 0) : IsMove b fa fb fi fq fk b' t c := by
  obtain ⟨t', h1, h2⟩ := h
  rw [h2 hc]
  exact h1
theorem move_not {b b' : Bk} {fa fb fi fq fk t c : Int} (h : MoveP b fa fb fi fq fk b' t c) (hc : c ≠ 0) : IsMove b fa fb fi fq fk b 0 c := by
  obtain ⟨t', h, _⟩ := h
  rcases h with ⟨h, rfl, rfl, rfl⟩ | ⟨h, k, rfl, rfl, rfl⟩ | ⟨h, k, b1, c1, hp, ⟨h1, rfl, rfl, rfl⟩ | ⟨h1, h2, rfl, rfl, rfl⟩ | ⟨h1, h2, b2, k2, c2, ht, ⟨h3, rfl, rfl, rfl⟩ | ⟨h3, b3, c3, ho, ⟨h4, rfl, rfl, rfl⟩ | ⟨h4, rfl, rfl, rfl⟩⟩⟩⟩
  · exact .inl ⟨h, rfl, rfl, rfl⟩
  · exact .inr (.inl ⟨h, k, rfl, rfl, rfl⟩)
  · exact .inr (.inr ⟨h, k, b1, _, hp, .inl ⟨h1, rfl, rfl, rfl⟩⟩)
  · exact absurd rfl hc
  · exact .inr (.inr ⟨h, k, b1, c1, hp, .inr (.inr ⟨h1, h2, b2, k2, _, ht, .inl ⟨h3, rfl, rfl, rfl⟩⟩)⟩)
  · exact .inr (.inr ⟨h, k, b1, c1, hp, .inr (.inr ⟨h1, h2, b2, k2, c2, ht, .inr ⟨h3, b3, _, ho, .inl ⟨h4, rfl, rfl, rfl⟩⟩⟩)⟩)
  · exact absurd rfl hc
set_option maxRecDepth 100000 in
set_option maxHeartbeats 8000000 in
theorem iMove (u : World) (z : Bx) (base g : Nat) (fa fb fi fq fk : Int) (told : ToldM z.b fa fb fi fq fk) (V : Var u base g z) (O : Ow u (base + 4) z) (hg : g < base + 4) :
    Calls Tryz.prog 82 #[.pointer (some ⟨g, 0, none⟩), .int .i64 fa, .int .i64 fb, .int .i64 fi, .int .i64 fq, .int .i64 fk] u (Does (MoveP z.b fa fb fi fq fk) base g u) := by
  obtain ⟨b0, h0⟩ := says_of (∀ y ∈ [fa, fb], kindOf z.b.ac y ≠ 0)
  obtain ⟨b1, h1⟩ := says_of (∀ y ∈ [fi], kindOf z.b.ic y ≠ 0)
  obtain ⟨t1, h3⟩ := says_of (kindOf z.b.ac fa = 1)
  obtain ⟨t2, h2⟩ := says_of (kindOf z.b.ac fb = 1)
  have H0 := hide h0
  have H1 := hide h1
  have H2 := hide h2
  have H3 := hide h3
  have TT := hide told
  have LI := hide told.1.1
  have SM := hide (ok_small told.1)
  have S0 := hide (DW.start V O (ok_small told.1))
  have S1 := hide ((unhide S0).step (one_more u (.cells #[.int .i64 fa, .int .i64 fb] 3)))
  have d0 := Box.c0 V
  have d1 := Box.c1 V
  have d2 := Box.c2 V
  have d3 := Box.c3 V
  have d4 := Box.c4 V
  have d5 := Box.c5 V
  clear h0 h1 h2 h3 told V O
  go_enter Tryz.func82, Tryz.ntmps82
  go_wp2_with fail
  refine (iHaveAccounts _ z u.heap.size 2 2 [fa, fb] b0 (unhide S1).r (unhide LI).1 rfl (by omega) (by simp) (at_new _ [fa, fb] _ rfl rfl) (unhide H0)).mono ?_
  rintro e w1 ⟨rfl, bb⟩
  have S2 := hide ((unhide S1).step bb)
  clear bb d0 d1 d2 d3 d4 d5
  cases b0
  · have NZ := hide (show kindOf z.b.ac fa = 0 ∨ kindOf z.b.ac fb = 0 ∨ kindOf z.b.ic fi = 0 from by
      have := (unhide H0).no
      simp only [List.mem_cons, List.not_mem_nil, or_false, forall_eq_or_imp, forall_eq] at this
      omega)
    go_wp2
    go_ret2
    exact ⟨z.b, 0, 3, ⟨0, .inl ⟨unhide NZ, rfl, rfl, rfl⟩, fun _ => rfl⟩, rfl, .inr ⟨by omega, Var.any (unhide S2).v⟩, (unhide S2).grown⟩
  have d0 := (unhide S2).v.c0
  have d1 := (unhide S2).v.c1
  have d2 := (unhide S2).v.c2
  have d3 := (unhide S2).v.c3
  have d4 := (unhide S2).v.c4
  have d5 := (unhide S2).v.c5
  have S3 := hide ((unhide S2).step (one_more w1 (.cells #[.int .i64 fi] 3)))
  go_wp2_with fail
  refine (iHaveInstrs _ z w1.heap.size 1 1 [fi] b1 (unhide S3).r (unhide LI).2.1 rfl (by omega) (by simp) (at_new _ [fi] _ rfl rfl) (unhide H1)).mono ?_
  rintro e w2 ⟨rfl, bb⟩
  have S4 := hide ((unhide S3).step bb)
  clear bb d0 d1 d2 d3 d4 d5 S3 S1
  cases b1
  · have NZ := hide (show kindOf z.b.ac fa = 0 ∨ kindOf z.b.ac fb = 0 ∨ kindOf z.b.ic fi = 0 from by
      have := (unhide H1).no
      simp only [List.mem_cons, List.not_mem_nil, or_false, forall_eq_or_imp, forall_eq] at this
      omega)
    go_wp2
    go_ret2
    exact ⟨z.b, 0, 3, ⟨0, .inl ⟨unhide NZ, rfl, rfl, rfl⟩, fun _ => rfl⟩, rfl, .inr ⟨by omega, Var.any (unhide S4).v⟩, (unhide S4).grown⟩
  have NZ := hide (show ¬ (kindOf z.b.ac fa = 0 ∨ kindOf z.b.ac fb = 0 ∨ kindOf z.b.ic fi = 0) from by
    have a := (unhide H0).yes
    have b := (unhide H1).yes
    simp only [List.mem_cons, List.not_mem_nil, or_false, forall_eq_or_imp, forall_eq] at a b
    omega)
  clear H0 H1 S2
  have d0 := (unhide S4).v.c0
  have d1 := (unhide S4).v.c1
  have d2 := (unhide S4).v.c2
  have d3 := (unhide S4).v.c3
  have d4 := (unhide S4).v.c4
  have d5 := (unhide S4).v.c5
  go_wp2_with fail
  refine (IRead.iHolder _ z fa t1 (unhide S4).r (unhide LI).1 (unhide H3)).mono ?_
  rintro e w3 ⟨rfl, bb⟩
  have S5 := hide ((unhide S4).step bb)
  clear bb d0 d1 d2 d3 d4 d5 S4
  cases t1
  · have IZ := hide (show IsMove z.b fa fb fi fq fk z.b 0 4 from .inr (.inl ⟨unhide NZ, .inl (unhide H3).no, rfl, rfl, rfl⟩))
    go_wp2
    go_ret2
    exact ⟨z.b, 0, 4, ⟨0, unhide IZ, fun _ => rfl⟩, rfl, .inr ⟨by omega, Var.any (unhide S5).v⟩, (unhide S5).grown⟩
  have KA := hide (unhide H3).yes
  clear H3
  have d0 := (unhide S5).v.c0
  have d1 := (unhide S5).v.c1
  have d2 := (unhide S5).v.c2
  have d3 := (unhide S5).v.c3
  have d4 := (unhide S5).v.c4
  have d5 := (unhide S5).v.c5
  go_wp2_with fail
  refine (IRead.iHolder _ z fb t2 (unhide S5).r (unhide LI).1 (unhide H2)).mono ?_
  rintro e w4 ⟨rfl, bb⟩
  have S6 := hide ((unhide S5).step bb)
  clear bb d0 d1 d2 d3 d4 d5 S5
  cases t2
  · have IZ := hide (show IsMove z.b fa fb fi fq fk z.b 0 4 from .inr (.inl ⟨unhide NZ, .inr (.inl (unhide H2).no), rfl, rfl, rfl⟩))
    go_wp2
    go_ret2
    exact ⟨z.b, 0, 4, ⟨0, unhide IZ, fun _ => rfl⟩, rfl, .inr ⟨by omega, Var.any (unhide S6).v⟩, (unhide S6).grown⟩
  have KB := hide (unhide H2).yes
  clear H2
  by_cases k0 : fa = fb
  · have k0b : (fa == fb) = true := eq_true k0
    have IZ := hide (show IsMove z.b fa fb fi fq fk z.b 0 4 from .inr (.inl ⟨unhide NZ, .inr (.inr k0), rfl, rfl, rfl⟩))
    clear k0
    go_wp2
    go_ret2
    exact ⟨z.b, 0, 4, ⟨0, unhide IZ, fun _ => rfl⟩, rfl, .inr ⟨by omega, Var.any (unhide S6).v⟩, (unhide S6).grown⟩
  · have k0b : (fa == fb) = false := eq_false k0
    have NK := hide (show ¬ (kindOf z.b.ac fa ≠ 1 ∨ kindOf z.b.ac fb ≠ 1 ∨ fa = fb) from by
      have a := unhide KA
      have b := unhide KB
      omega)
    clear k0 KA KB
    go_wp2_with fail
    refine (Shorts.iGiven _ fa fb fi fq (unhide TT).2.2.2.2.1.1 (unhide TT).2.2.2.2.1.2).mono ?_
    rintro e w6 ⟨gL, rfl, hgL, aL, bb⟩
    have S8 := hide ((unhide S6).step bb)
    have AL := hide aL
    clear bb aL
    go_wp2_with fail
    refine (IPostB.iPost w6 z base g gL 2 (pairL fa fb fi fq) (unhide LI) (unhide SM) (unhide S8).v (unhide S8).o hg (by simp [pairL]) hgL (unhide AL) (pair_formed (unhide TT).2.1 (unhide TT).2.2.1 (unhide TT).2.2.2.1 (unhide TT).2.2.2.2.1.1 (unhide TT).2.2.2.2.1.2) (pair_even _ _ _ _)).mono ?_
    rintro e w7 ⟨y, c1, hp, rfl, v1, o1, gr⟩
    have HP := hide hp
    have V1 := hide v1
    have O1 := hide o1
    have GR := hide (Pairs.grown_trans (unhide S8).grown gr)
    have SY := hide (posted_small hp (unhide SM))
    have PL := hide (posted_lot hp)
    clear hp v1 o1 gr AL hgL S8
    by_cases z1 : c1 = 0
    rotate_left
    · have z1b : (c1 != 0) = true := ne_true z1
      have HN := hide z1
      clear z1
      go_wp2
      go_ret2
      exact ⟨z.b, 0, c1, ⟨0, .inr (.inr ⟨unhide NZ, unhide NK, y.b, c1, unhide HP, .inl ⟨unhide HN, rfl, rfl, rfl⟩⟩), fun _ => rfl⟩, rfl, .inr ⟨unhide HN, Var.any (unhide V1)⟩, unhide GR⟩
    subst z1
    obtain ⟨t4, h4⟩ := says_of (kindOf y.b.ic fi = 1)
    have H4 := hide h4
    have D0 := hide (DW.start (unhide V1) (unhide O1) (unhide SY))
    have d0 := (unhide D0).v.c0
    have d1 := (unhide D0).v.c1
    have d2 := (unhide D0).v.c2
    have d3 := (unhide D0).v.c3
    have d4 := (unhide D0).v.c4
    have d5 := (unhide D0).v.c5
    clear h4 V1 O1
    go_wp2_with fail
    refine (IRead.iCash _ y fi t4 (unhide D0).r (by rw [(unhide PL).2.2.2]; exact (unhide LI).2.1) (unhide H4)).mono ?_
    rintro e w8 ⟨rfl, bb⟩
    have D1 := hide ((unhide D0).step bb)
    clear bb d0 d1 d2 d3 d4 d5 D0
    cases t4
    rotate_left
    · have KI := hide (show kindOf z.b.ic fi = 1 from by have := (unhide H4).yes; rw [(unhide PL).2.2.2] at this; exact this)
      go_wp2
      go_ret2
      exact ⟨y.b, 0, 0, ⟨0, .inr (.inr ⟨unhide NZ, unhide NK, y.b, 0, unhide HP, .inr (.inl ⟨rfl, unhide KI, rfl, rfl, rfl⟩)⟩), fun _ => rfl⟩, rfl, .inl ⟨rfl, y, rfl, (unhide D1).v, (unhide D1).o⟩, Pairs.grown_trans (unhide GR) (unhide D1).grown⟩
    have KN := hide (show kindOf z.b.ic fi ≠ 1 from by have := (unhide H4).no; rw [(unhide PL).2.2.2] at this; exact this)
    go_wp2_with fail
    refine (ITakeBk.iTakeBk w8 y base g fa fi fq fk (unhide SY) (unhide D1).v (unhide D1).o hg).mono ?_
    rintro e w9 ⟨b2, k2, c2, ht, rfl, hz, gr⟩
    have HT := hide ht
    have G2 := hide (Pairs.grown_trans (Pairs.grown_trans (unhide GR) (unhide D1).grown) gr)
    rcases hz with ⟨rfl, y2, v2, hy, vl, ol⟩ | ⟨hne, ab⟩
    rotate_left
    · have cb : (c2 != 0) = true := ne_true hne
      have HN := hide hne
      have AB := hide ab
      clear hne ab ht gr
      go_wp2
      go_ret2
      exact ⟨z.b, 0, c2, ⟨0, .inr (.inr ⟨unhide NZ, unhide NK, y.b, 0, unhide HP, .inr (.inr ⟨rfl, unhide KN, b2, k2, c2, unhide HT, .inl ⟨unhide HN, rfl, rfl, rfl⟩⟩)⟩), fun _ => rfl⟩, rfl, .inr ⟨unhide HN, unhide AB⟩, unhide G2⟩
    have HY := hide hy
    have VL := hide vl
    have OL := hide ol
    have TL := hide (took_lot ht (unhide SY))
    clear ht gr hy vl ol
    go_wp2_with fail
    refine (IOpenBk.iOpenBk w9 y2 v2 base g fb fi fq k2 (by rw [unhide HY, (unhide TL).1, (unhide PL).1]; exact (unhide LI).2.2.2.2.2) (by rw [unhide HY]; exact (unhide TL).2) (unhide VL) (unhide OL) hg).mono ?_
    rintro e w10 ⟨b3, c3, ho, rfl, hz, gr⟩
    rw [unhide HY] at ho
    have HO := hide ho
    have HZ := hide hz
    have G3 := hide (Pairs.grown_trans (unhide G2) gr)
    clear ho hz gr
    go_wp2
    go_ret2
    rcases unhide HZ with ⟨rfl, y3, hy, v3, o3⟩ | ⟨hne, ab⟩
    · exact ⟨b3, k2, 0, ⟨k2, .inr (.inr ⟨unhide NZ, unhide NK, y.b, 0, unhide HP, .inr (.inr ⟨rfl, unhide KN, b2, k2, 0, unhide HT, .inr ⟨rfl, b3, 0, unhide HO, .inr ⟨rfl, rfl, rfl, rfl⟩⟩⟩)⟩), fun _ => rfl⟩, rfl, .inl ⟨rfl, y3, hy, v3, o3⟩, unhide G3⟩
    · exact ⟨z.b, k2, c3, ⟨0, .inr (.inr ⟨unhide NZ, unhide NK, y.b, 0, unhide HP, .inr (.inr ⟨rfl, unhide KN, b2, k2, 0, unhide HT, .inr ⟨rfl, b3, c3, unhide HO, .inl ⟨hne, rfl, rfl, rfl⟩⟩⟩)⟩), fun e => absurd e hne⟩, rfl, .inr ⟨hne, ab⟩, unhide G3⟩
set_option maxRecDepth 100000 in
theorem iClosure (u : World) (z : Bx) (base g : Nat) (p1 p2 p3 p4 p5 : Addr) (fa fb fi fq fk : Int) (h1 : u.cell? p1 = some (.int .i64 fa)) (h2 : u.cell? p2 = some (.int .i64 fb)) (h3 : u.cell? p3 = some (.int .i64 fi)) (h4 : u.cell? p4 = some (.int .i64 fq)) (h5 : u.cell? p5 = some (.int .i64 fk)) (told : ToldM z.b fa fb fi fq fk) (V : Var u base g z) (O : Ow u (base + 4) z) (hg : g < base + 4) :
    Calls Tryz.prog 81 #[.pointer (some ⟨g, 0, none⟩), .pointer (some p1), .pointer (some p2), .pointer (some p3), .pointer (some p4), .pointer (some p5)] u (Does (MoveP z.b fa fb fi fq fk) base g u) := by
  have V1 := hide V
  have O1 := hide O
  have TT := hide told
  clear V O told
  go_enter Tryz.func81, Tryz.ntmps81
  go_wp2_with fail
  refine (iMove u z base g fa fb fi fq fk (unhide TT) (unhide V1) (unhide O1) hg).mono ?_
  rintro e u' ⟨b', t, c, hI, rfl, hz, gr⟩
  have HI := hide hI
  have HZ := hide hz
  have GR := hide gr
  clear hI hz gr
  go_wp2
  go_ret2
  exact ⟨b', t, c, unhide HI, rfl, unhide HZ, unhide GR⟩
end Go.Proofs.YtlbdfaahcmlddaaGreat.IMove
namespace Go.Proofs.YtlbdfaahcmlddaaGreat.MoveTellI
open Go.ChangeShapes Go.WideShapes Go.ChangeAt Go.RowKit BMem Bks ILists BHelp Ans ICopied ICmdB IHave
open SIssue (ToldI six_alloc ow_six_alloc box_six_alloc to_wb off_box)
open SMove (ToldM AnsM)
open IMove (MoveP)
open IBalsFit (one_more all_one)
open ITrade (at_new)
open Lots (Says says_of NoOk)
set_option maxRecDepth 100000 in
set_option maxHeartbeats 8000000 in
theorem iTell (w : World) (x : Bx) (fa fb fi fq fk : Int) (h : Rd w x) :
    Calls Tryz.prog 22 #[.agg #[.slice (some ⟨x.ga, 0, none⟩) x.b.ac.length x.ca, .slice (some ⟨x.gi, 0, none⟩) x.b.ic.length x.ci, .slice (some ⟨x.gb, 0, none⟩) x.b.bs.length x.cb, .slice (some ⟨x.gl, 0, none⟩) x.b.ls.length x.cl, .slice (some ⟨x.gt, 0, none⟩) x.b.ts.length x.ct, .int .i64 x.b.lot], .int .i64 fa, .int .i64 fb, .int .i64 fi, .int .i64 fq, .int .i64 fk] w (AnsM (ToldM x.b fa fb fi fq fk) (IsMove x.b fa fb fi fq fk) w) := by
  obtain ⟨b1, h1⟩ := says_of (∀ y ∈ [fa, fb, fi], NoOk y)
  obtain ⟨b2, h2⟩ := says_of (1 ≤ fq ∧ fq ≤ 1000000000000000)
  obtain ⟨b3, h3⟩ := says_of (1 ≤ fk ∧ fk ≤ 3)
  have HT := hide (show Says (b1 && (b2 && b3)) (NoOk fa ∧ NoOk fb ∧ NoOk fi ∧ (1 ≤ fq ∧ fq ≤ 1000000000000000) ∧ (1 ≤ fk ∧ fk ≤ 3)) from by
    have a := IssueTellI.says_and h1 (IssueTellI.says_and h2 h3)
    refine ⟨fun e => ?_, fun r => a.of ⟨?_, r.2.2.2.1, r.2.2.2.2⟩⟩
    · have := a.1 e
      exact ⟨this.1 fa (by simp), this.1 fb (by simp), this.1 fi (by simp), this.2.1, this.2.2⟩
    · intro y hy
      simp only [List.mem_cons, List.not_mem_nil, or_false] at hy
      rcases hy with rfl | rfl | rfl
      · exact r.1
      · exact r.2.1
      · exact r.2.2.1)
  have H1 := hide h1
  have H2 := hide h2
  have H3 := hide h3
  have S0 := hide (IssueTellI.TW.start (fa := fa) (fb := fb) (fi := fi) (fq := fq) (fk := fk) h)
  clear h1 h2 h3 h
  go_enter Tryz.func22, Tryz.ntmps22
  go_wp2_with fail
  have S1 := hide ((unhide S0).step (one_more _ (.cells #[.int .i64 fa, .int .i64 fb, .int .i64 fi] 3)))
  refine (iNumbers _ (w.heap.size + 1 + 1 + 1 + 1 + 1 + 1 + 1) 3 3 [fa, fb, fi] b1 rfl (by omega) (by simp) (at_new _ [fa, fb, fi] _ (by simp) rfl) (unhide H1)).mono ?_
  rintro e w1 ⟨rfl, bb⟩
  have S2 := hide ((unhide S1).step bb)
  clear bb S1 S0
  obtain ⟨c0, c1, c2, c3, c4, c5⟩ := (unhide S2).c
  have n1 := (unhide S2).n1
  have n2 := (unhide S2).n2
  have n3 := (unhide S2).n3
  have n4 := (unhide S2).n4
  have n5 := (unhide S2).n5
  have hmf : ∀ (fn : Fn) (first cp : Array Value) (w : World), (Instr.makeFunc fn first cp).run Tryz.prog w = .ok (.func fn first cp) w := fun _ _ _ _ => rfl
  have HF := hide (show Ok x.b → (NoOk fa ∧ NoOk fb ∧ NoOk fi ∧ (1 ≤ fq ∧ fq ≤ 1000000000000000) ∧ (1 ≤ fk ∧ fk ≤ 3)) → ∀ (u : World) (z : Bx), z.b = x.b → Var u w1.heap.size (w1.heap.size + 1) z → Ow u (w1.heap.size + 4) z → Below w1.heap.size w1 u → Calls Tryz.prog 81 (#[.pointer (some ⟨w1.heap.size + 1, 0, none⟩)] ++ #[.pointer (some ⟨w.heap.size + 1, 0, none⟩), .pointer (some ⟨w.heap.size + 1 + 1, 0, none⟩), .pointer (some ⟨w.heap.size + 1 + 1 + 1, 0, none⟩), .pointer (some ⟨w.heap.size + 1 + 1 + 1 + 1, 0, none⟩), .pointer (some ⟨w.heap.size + 1 + 1 + 1 + 1 + 1, 0, none⟩)]) u (Does (MoveP x.b fa fb fi fq fk) w1.heap.size (w1.heap.size + 1) u) from by
    intro ok ta u z hz V O bb
    have l := (unhide S2).v.lt
    have q := IMove.iClosure u z w1.heap.size (w1.heap.size + 1) ⟨w.heap.size + 1, 0, none⟩ ⟨w.heap.size + 1 + 1, 0, none⟩ ⟨w.heap.size + 1 + 1 + 1, 0, none⟩ ⟨w.heap.size + 1 + 1 + 1 + 1, 0, none⟩ ⟨w.heap.size + 1 + 1 + 1 + 1 + 1, 0, none⟩ fa fb fi fq fk ((bb.cell (p := ⟨w.heap.size + 1, 0, none⟩) (by simp <;> omega)).trans n1) ((bb.cell (p := ⟨w.heap.size + 1 + 1, 0, none⟩) (by simp <;> omega)).trans n2) ((bb.cell (p := ⟨w.heap.size + 1 + 1 + 1, 0, none⟩) (by simp <;> omega)).trans n3) ((bb.cell (p := ⟨w.heap.size + 1 + 1 + 1 + 1, 0, none⟩) (by simp <;> omega)).trans n4) ((bb.cell (p := ⟨w.heap.size + 1 + 1 + 1 + 1 + 1, 0, none⟩) (by simp <;> omega)).trans n5) (by rw [hz]; exact ⟨ok, ta⟩) V O (by omega)
    rw [hz] at q
    exact q)
  cases b1
  rotate_left
  go_wp2_with fail
  refine (IHave.iFrom 1 fq b2 _ (unhide H2)).mono ?_
  rintro e v1 ⟨rfl, hv⟩
  rw [hv]
  clear hv
  cases b2
  rotate_left
  go_wp2_with fail
  refine (IHave.iWay fk b3 _ (unhide H3)).mono ?_
  rintro e v2 ⟨rfl, hv⟩
  rw [hv]
  clear hv
  cases b3
  all_goals
    (clear H1 H2 H3
     go_wp2_with fail
     refine (ICmd.iCmd _ x _ (NoOk fa ∧ NoOk fb ∧ NoOk fi ∧ (1 ≤ fq ∧ fq ≤ 1000000000000000) ∧ (1 ≤ fk ∧ fk ≤ 3)) 81 _ (MoveP x.b fa fb fi fq fk) (unhide S2).r (unhide HT) (fun _ _ => rfl) (unhide HF)).mono ?_
     clear HF HT
     rintro e w3 (⟨N, rfl, bb⟩ | ⟨T, b', t, c, z, hP, hz, oz, bb⟩)
     · have S3 := hide ((unhide S2).step bb)
       have NN := hide (show ¬ (ToldM x.b fa fb fi fq fk) from fun hh => N ⟨hh.2, hh.1⟩)
       have l : w.heap.size + 1 + 1 + 1 + 1 + 1 + 1 < w1.heap.size := (unhide S2).v.lt.2
       have l3 : w.heap.size + 1 + 1 + 1 + 1 + 1 + 1 < w3.heap.size := (unhide S3).v.lt.2
       have l4 : w.heap.size + 1 + 1 + 1 + 1 + 1 + 1 ≠ w3.heap.size := by omega
       clear bb c0 c1 c2 c3 c4 c5 n1 n2 n3 n4 n5 N
       have r0 := (unhide S3).v.c0
       have r1 := (unhide S3).v.c1
       have r2 := (unhide S3).v.c2
       have r3 := (unhide S3).v.c3
       have r4 := (unhide S3).v.c4
       have r5 := (unhide S3).v.c5
       have f0 := (unhide S3).v.free 0
       have f1 := (unhide S3).v.free 1
       have f2 := (unhide S3).v.free 2
       have f3 := (unhide S3).v.free 3
       have f4 := (unhide S3).v.free 4
       have f5 := (unhide S3).v.free 5
       go_wp2
       refine to_wb (fun W => Box W w.heap.size (w.heap.size + 1 + 1 + 1 + 1 + 1 + 1) (.slice none 0 0) (.slice none 0 0) (.slice none 0 0) (.slice none 0 0) (.slice none 0 0) (.int .i64 0) ∧ Below w.heap.size w W) ?_ ?_
       · exact ⟨(box_six (unhide S3).v _ _ _ _ _ _).1, six (unhide S3).b (by omega) _ _ _ _ _ _⟩
       rintro W ⟨X, B⟩
       have g0 := X.c0
       have g1 := X.c1
       have g2 := X.c2
       have g3 := X.c3
       have g4 := X.c4
       have g5 := X.c5
       exact bodyPost_ret (v := .tuple #[.agg #[.slice none 0 0, .slice none 0 0, .slice none 0 0, .slice none 0 0, .slice none 0 0, .int .i64 0], .int .i64 0, .int .i64 1]) (by simp [results, Tryz.results22, go_sem, g0, g1, g2, g3, g4, g5]) rfl (.inl ⟨unhide NN, rfl, B⟩)
     · have S3 := hide ((unhide S2).step bb)
       have TT := hide (show ToldM x.b fa fb fi fq fk from ⟨T.2, T.1⟩)
       have l : w.heap.size + 1 + 1 + 1 + 1 + 1 + 1 < w1.heap.size := (unhide S2).v.lt.2
       have l3 : w.heap.size + 1 + 1 + 1 + 1 + 1 + 1 < w3.heap.size := (unhide S3).v.lt.2
       have l4 : w.heap.size + 1 + 1 + 1 + 1 + 1 + 1 ≠ w3.heap.size := by omega
       have OZ := hide oz
       have LZ := hide (ow_lo oz)
       have HP := hide hP
       clear bb c0 c1 c2 c3 c4 c5 n1 n2 n3 n4 n5 T oz hP
       have r0 := (unhide S3).v.c0
       have r1 := (unhide S3).v.c1
       have r2 := (unhide S3).v.c2
       have r3 := (unhide S3).v.c3
       have r4 := (unhide S3).v.c4
       have r5 := (unhide S3).v.c5
       have f0 := (unhide S3).v.free 0
       have f1 := (unhide S3).v.free 1
       have f2 := (unhide S3).v.free 2
       have f3 := (unhide S3).v.free 3
       have f4 := (unhide S3).v.free 4
       have f5 := (unhide S3).v.free 5
       rcases hz with ⟨q, hb, rfl⟩ | ⟨q, hb, rfl⟩
       · have IS := hide (show IsMove x.b fa fb fi fq fk z.b t c from by rw [hb]; exact IMove.move_done (unhide HP) q)
         clear q hb HP
         go_wp2
         refine to_wb (fun W => Box W w.heap.size (w.heap.size + 1 + 1 + 1 + 1 + 1 + 1) (.slice (some ⟨z.ga, 0, none⟩) z.b.ac.length z.ca) (.slice (some ⟨z.gi, 0, none⟩) z.b.ic.length z.ci) (.slice (some ⟨z.gb, 0, none⟩) z.b.bs.length z.cb) (.slice (some ⟨z.gl, 0, none⟩) z.b.ls.length z.cl) (.slice (some ⟨z.gt, 0, none⟩) z.b.ts.length z.ct) (.int .i64 z.b.lot) ∧ Below w.heap.size w W ∧ Ow W w.heap.size z) ?_ ?_
         · exact ⟨(box_six (unhide S3).v _ _ _ _ _ _).1, six (unhide S3).b (by omega) _ _ _ _ _ _, (ow_six (unhide OZ) (off_lo (unhide LZ) l) _ _ _ _ _ _).rebase (unhide S2).b.size⟩
         rintro W ⟨X, B, OW⟩
         have g0 := X.c0
         have g1 := X.c1
         have g2 := X.c2
         have g3 := X.c3
         have g4 := X.c4
         have g5 := X.c5
         exact bodyPost_ret (v := .tuple #[.agg #[.slice (some ⟨z.ga, 0, none⟩) z.b.ac.length z.ca, .slice (some ⟨z.gi, 0, none⟩) z.b.ic.length z.ci, .slice (some ⟨z.gb, 0, none⟩) z.b.bs.length z.cb, .slice (some ⟨z.gl, 0, none⟩) z.b.ls.length z.cl, .slice (some ⟨z.gt, 0, none⟩) z.b.ts.length z.ct, .int .i64 z.b.lot], .int .i64 t, .int .i64 c]) (by simp [results, Tryz.results22, go_sem, g0, g1, g2, g3, g4, g5]) rfl (.inr ⟨unhide TT, z, t, c, unhide IS, rfl, OW, B⟩)
       · have IS := hide (show IsMove x.b fa fb fi fq fk z.b 0 c from by rw [hb]; exact IMove.move_not (unhide HP) q)
         clear q hb HP
         go_wp2
         refine to_wb (fun W => Box W w.heap.size (w.heap.size + 1 + 1 + 1 + 1 + 1 + 1) (.slice (some ⟨z.ga, 0, none⟩) z.b.ac.length z.ca) (.slice (some ⟨z.gi, 0, none⟩) z.b.ic.length z.ci) (.slice (some ⟨z.gb, 0, none⟩) z.b.bs.length z.cb) (.slice (some ⟨z.gl, 0, none⟩) z.b.ls.length z.cl) (.slice (some ⟨z.gt, 0, none⟩) z.b.ts.length z.ct) (.int .i64 z.b.lot) ∧ Below w.heap.size w W ∧ Ow W w.heap.size z) ?_ ?_
         · exact ⟨(box_six (unhide S3).v _ _ _ _ _ _).1, six (unhide S3).b (by omega) _ _ _ _ _ _, (ow_six (unhide OZ) (off_lo (unhide LZ) l) _ _ _ _ _ _).rebase (unhide S2).b.size⟩
         rintro W ⟨X, B, OW⟩
         have g0 := X.c0
         have g1 := X.c1
         have g2 := X.c2
         have g3 := X.c3
         have g4 := X.c4
         have g5 := X.c5
         exact bodyPost_ret (v := .tuple #[.agg #[.slice (some ⟨z.ga, 0, none⟩) z.b.ac.length z.ca, .slice (some ⟨z.gi, 0, none⟩) z.b.ic.length z.ci, .slice (some ⟨z.gb, 0, none⟩) z.b.bs.length z.cb, .slice (some ⟨z.gl, 0, none⟩) z.b.ls.length z.cl, .slice (some ⟨z.gt, 0, none⟩) z.b.ts.length z.ct, .int .i64 z.b.lot], .int .i64 0, .int .i64 c]) (by simp [results, Tryz.results22, go_sem, g0, g1, g2, g3, g4, g5]) rfl (.inr ⟨unhide TT, z, 0, c, unhide IS, rfl, OW, B⟩))
end Go.Proofs.YtlbdfaahcmlddaaGreat.MoveTellI
