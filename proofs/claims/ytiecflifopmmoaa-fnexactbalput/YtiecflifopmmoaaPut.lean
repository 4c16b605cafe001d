/- Contracts of BalPut, the model's and the program's. Condition: a list of at most 2^20 triples. -/
import Derived.Test.YtiecflifopmmoaaSPut3
import Derived.Test.YtiecflifopmmoaaOut
namespace Go.Proofs.Ytiecflifopmmoaa.Put
open Go.ChangeShapes Go.WideShapes Go.ChangeAt Go.RowKit Bals Triples Cmp SOk3 IOk3 Tab Look SPut3 Out
set_option linter.unusedVariables false
set_option linter.unusedSimpArgs false

/-- What comes of a put is right just if it is not too long. -/
theorem put_right {ps qs : List T3} {a i x : Int} (h : Right ps) (ha : NoOk a) (hi : NoOk i) (hx : Amt x) (hq : ListOf (upd (val ps) a i x) qs) : Right qs ↔ qs.length ≤ 160 :=
  ⟨fun r => r.1, fun l => hq.right ((fine_of h).upd ha hi hx) l⟩

/-- What a call answers: a list of its own. -/
def Answers (w : World) (ps : List T3) (a i x : Int) (e : Ending) (w' : World) : Prop :=
  ∃ qs ok g c, IsPut ps a i x qs ok ∧ e = .returned (.tuple #[.slice (some ⟨g, 0, none⟩) qs.length c, .bool ok]) ∧ Own3 54 w' w.heap.size g qs.length c qs ∧ Below w.heap.size w w'

theorem none_of {w u : World} {ps : List T3} {a i x : Int} (hp : IsPut ps a i x [] false) (hb : Below w.heap.size w u) : Answers w ps a i x (.returned (.tuple #[.slice (some ⟨u.heap.size, 0, none⟩) 0 0, .bool false])) (u.alloc (.cells #[] 54)) :=
  ⟨[], false, u.heap.size, 0, hp, rfl, lit30 _ _ _ hb.size, hb.alloc hb.size _⟩

set_option maxRecDepth 100000 in
theorem sBalPut (w : World) (g n cap : Nat) (ps : List T3) (a i x : Int) (hl : ps.length = n) (h20 : n ≤ 1048576) (hg : g < w.heap.size) (h : At3 w g ps) :
    Calls Try.prog 16 #[.slice (some ⟨g, 0, none⟩) n cap, .int .i64 a, .int .i64 i, .int .i64 x] w (Answers w ps a i x) := by
  obtain ⟨b0, S0⟩ := says_of (Right ps)
  obtain ⟨b1, S1⟩ := says_of (NoOk a)
  obtain ⟨b2, S2⟩ := says_of (NoOk i)
  obtain ⟨b3, S3⟩ := says_of (Amt x)
  have BAD := hide (show (b0 && b1 && b2 && b3) = false → IsPut ps a i x [] false from fun hb => .inr (.inr ⟨(fun r => by
    rw [S0.of r.1, S1.of r.2.1, S2.of r.2.2.1, S3.of r.2.2.2] at hb
    cases hb), rfl, rfl⟩))
  have H := hide h
  clear h
  go_enter Try.func16, Try.ntmps16
  go_wp2_with fail
  refine (sOk _ g n cap ps b0 hl h20 hg (unhide H) S0).mono ?_
  rintro e w1 ⟨rfl, n1⟩
  have A1 := hide ((unhide H).below n1 hg)
  have B1 := hide n1
  have s1 := n1.size
  clear n1
  cases b0
  · have P0 := hide ((unhide BAD) rfl)
    go_wp2
    go_ret2
    exact none_of (unhide P0) (unhide B1)
  cases b1
  · have P0 := hide ((unhide BAD) rfl)
    go_wp2_with (first | (go_at_call 33; refine (sNo a false _ S1).mono ?_; rintro e w2 ⟨rfl, rfl⟩))
    go_ret2
    exact none_of (unhide P0) (unhide B1)
  cases b2
  · have P0 := hide ((unhide BAD) rfl)
    go_wp2_with fail
    refine (sNo a true _ S1).mono ?_
    rintro e w2 ⟨rfl, rfl⟩
    go_wp2_with fail
    refine (sNo i false _ S2).mono ?_
    rintro e w3 ⟨rfl, rfl⟩
    go_wp2
    go_ret2
    exact none_of (unhide P0) (unhide B1)
  cases b3
  · have P0 := hide ((unhide BAD) rfl)
    go_wp2_with fail
    refine (sNo a true _ S1).mono ?_
    rintro e w2 ⟨rfl, rfl⟩
    go_wp2_with fail
    refine (sNo i true _ S2).mono ?_
    rintro e w3 ⟨rfl, rfl⟩
    go_wp2_with fail
    refine (sAmt x false _ S3).mono ?_
    rintro e w4 ⟨rfl, rfl⟩
    go_wp2
    go_ret2
    exact none_of (unhide P0) (unhide B1)
  clear BAD
  have n160 : n ≤ 160 := by have := S0.yes.1; omega
  obtain ⟨p0, hp0⟩ : ∃ p0 : Bool, (x == 0) = p0 := ⟨_, rfl⟩
  have PV := hide (put_val (a, i, x) ps p0 S0.yes.good (by rw [← hp0]; simp))
  have HP := hide hp0
  clear hp0
  go_wp2_with fail
  refine (sNo a true _ S1).mono ?_
  rintro e w2 ⟨rfl, rfl⟩
  go_wp2_with fail
  refine (sNo i true _ S2).mono ?_
  rintro e w3 ⟨rfl, rfl⟩
  go_wp2_with fail
  refine (sAmt x true _ S3).mono ?_
  rintro e w4 ⟨rfl, rfl⟩
  go_wp2_with fail
  refine (sPut _ g n cap ps a i x p0 hl (by omega) (by omega) (unhide A1) (unhide HP)).mono ?_
  rintro e w5 ⟨g5, c5, rfl, o5, n5⟩
  have LN := putL_len (a, i, x) ps p0
  have LO := hide (show ListOf (upd (val ps) a i x) (putL (a, i, x) ps p0) from unhide PV)
  generalize putL (a, i, x) ps p0 = qs at *
  obtain ⟨b5, S5⟩ := says_of (Right qs)
  have RI := hide (put_right S0.yes S1.yes S2.yes S3.yes (unhide LO))
  have B5 := hide (next (unhide B1) n5)
  have O5 := hide o5
  have l5 : qs.length ≤ 1048576 := by split at LN <;> omega
  have gl := o5.lt.2
  clear n5 o5 PV LN
  go_wp2_with fail
  refine (sOk _ g5 qs.length c5 qs b5 rfl l5 gl (unhide O5).at S5).mono ?_
  rintro e w6 ⟨rfl, n6⟩
  have O6 := hide (((unhide O5).below n6 gl).rebase (base' := w.heap.size) (by have := (unhide O5).lt.1; omega))
  have B6 := hide (next (unhide B5) n6)
  clear n6
  cases b5
  · have P0 := hide (show IsPut ps a i x [] false from .inr (.inl ⟨⟨S0.yes, S1.yes, S2.yes, S3.yes⟩, ⟨qs, unhide LO, fun l => S5.no ((unhide RI).2 l)⟩, rfl, rfl⟩))
    go_wp2
    go_ret2
    exact none_of (unhide P0) (unhide B6)
  · have P0 := hide (show IsPut ps a i x qs true from .inl ⟨⟨S0.yes, S1.yes, S2.yes, S3.yes⟩, unhide LO, S5.yes.1, rfl⟩)
    go_wp2
    go_ret2
    exact ⟨qs, true, g5, c5, unhide P0, rfl, unhide O6, unhide B6⟩

set_option maxRecDepth 100000 in
theorem iBalPut (w : World) (g n cap : Nat) (ps : List T3) (a i x : Int) (hl : ps.length = n) (h20 : n ≤ 1048576) (hg : g < w.heap.size) (h : At3 w g ps) :
    Calls Try.prog 17 #[.slice (some ⟨g, 0, none⟩) n cap, .int .i64 a, .int .i64 i, .int .i64 x] w (Answers w ps a i x) := by
  obtain ⟨b0, S0⟩ := says_of (Right ps)
  obtain ⟨b1, S1⟩ := says_of (NoOk a ∧ NoOk i)
  obtain ⟨b3, S3⟩ := says_of (Amt x)
  have BAD := hide (show (b0 && b1 && b3) = false → IsPut ps a i x [] false from fun hb => .inr (.inr ⟨(fun r => by
    rw [S0.of r.1, S1.of ⟨r.2.1, r.2.2.1⟩, S3.of r.2.2.2] at hb
    cases hb), rfl, rfl⟩))
  have n0 : Below w.heap.size w (w.alloc (.cells #[.int .i64 a, .int .i64 i] 60)) := (Below.refl _ _).alloc (Nat.le_refl _) _
  have H := hide (h.below n0 hg)
  have B0 := hide n0
  clear h n0
  go_enter Try.func17, Try.ntmps17
  go_wp2_with fail
  refine (iOk _ g n cap ps b0 hl h20 (by simp; omega) (unhide H) S0).mono ?_
  rintro e w1 ⟨rfl, n1⟩
  have A1 := hide ((unhide H).below n1 (by simp; omega))
  have B1 := hide (next (unhide B0) n1)
  have s1 := n1.size
  have f0 : w1.cell? ⟨w.heap.size, 0, none⟩ = some (.int .i64 a) := (n1.cell (p := ⟨w.heap.size, 0, none⟩) (by simp)).trans (by simp)
  have f1 : w1.cell? ⟨w.heap.size, 1, none⟩ = some (.int .i64 i) := (n1.cell (p := ⟨w.heap.size, 1, none⟩) (by simp)).trans (by simp)
  simp only [World.size_alloc] at s1
  clear n1
  cases b0
  · have P0 := hide ((unhide BAD) rfl)
    go_wp2
    go_ret2
    exact none_of (unhide P0) (unhide B1)
  go_wp2_with fail
  refine (keyOk a i b1 _ S1).mono ?_
  rintro e w2 ⟨rfl, n2⟩
  have A2 := hide ((unhide A1).below n2 (by omega))
  have B2 := hide (next (unhide B1) n2)
  have s2 := n2.size
  have f0 := (n2.cell (p := ⟨w.heap.size, 0, none⟩) (show w.heap.size < _ by omega)).trans f0
  have f1 := (n2.cell (p := ⟨w.heap.size, 1, none⟩) (show w.heap.size < _ by omega)).trans f1
  clear n2
  cases b1
  · have P0 := hide ((unhide BAD) rfl)
    go_wp2
    go_ret2
    exact none_of (unhide P0) (unhide B2)
  go_wp2_with fail
  refine (iAmt x b3 _ S3).mono ?_
  rintro e w3 ⟨rfl, rfl⟩
  cases b3
  · have P0 := hide ((unhide BAD) rfl)
    go_wp2
    go_ret2
    exact none_of (unhide P0) (unhide B2)
  clear BAD
  have n160 : n ≤ 160 := by have := S0.yes.1; omega
  go_wp2_with fail
  refine (iTable _ g n cap ps hl (by omega) (unhide A2) S0.yes).mono ?_
  rintro e w4 ⟨rfl, t4, n4⟩
  have B4 := hide (next (unhide B2) n4)
  have s4 := n4.size
  have f0 := (n4.cell (p := ⟨w.heap.size, 0, none⟩) (show w.heap.size < _ by omega)).trans f0
  have f1 := (n4.cell (p := ⟨w.heap.size, 1, none⟩) (show w.heap.size < _ by omega)).trans f1
  have T4 := hide t4
  clear t4 n4
  go_wp2_with (first | (at_mapUpdate; refine wp_put _ rfl _ _ _ 65 rfl Try.underlying65 w3.heap.size n _ rfl (unhide T4) (by omega) a i x rfl rfl (wf_no S1.yes.1 S1.yes.2) (wf_amt S3.yes) ?_) | go_in)
  intro w5 t5 g5
  have B5 := hide ((unhide B4).grown g5 (unhide B4).size (fun j hj => by cases hj; omega))
  have T5 := hide t5
  clear t5 g5 f0 f1
  go_wp2_with fail
  refine (iBals _ w3.heap.size (n + 1) _ (by omega) (unhide T5)).mono ?_
  rintro e w6 ⟨qs, g6, c6, lo, ll, rfl, o6, n6⟩
  have LO := hide lo
  have O6 := hide (o6.rebase (base' := w.heap.size) (by have := o6.lt.1; have := (unhide B5).size; omega))
  have B6 := hide (next (unhide B5) n6)
  clear lo o6 n6
  by_cases ln : qs.length ≤ 160
  · have P0 := hide (show IsPut ps a i x qs true from .inl ⟨⟨S0.yes, S1.yes.1, S1.yes.2, S3.yes⟩, unhide LO, ln, rfl⟩)
    have ln2 : ¬ (160 : Int) < (qs.length : Int) := by omega
    go_wp2
    go_ret2
    exact ⟨qs, true, g6, c6, unhide P0, rfl, unhide O6, unhide B6⟩
  · have P0 := hide (show IsPut ps a i x [] false from .inr (.inl ⟨⟨S0.yes, S1.yes.1, S1.yes.2, S3.yes⟩, ⟨qs, unhide LO, ln⟩, rfl, rfl⟩))
    have ln2 : (160 : Int) < (qs.length : Int) := by omega
    go_wp2
    go_ret2
    exact none_of (unhide P0) (unhide B6)

end Go.Proofs.Ytiecflifopmmoaa.Put
