/- Texts of one proof, one behind the other: Post2, SPost, Shorts, SBk, SIssue, IPostB, ITakeBk, IOpenBk, IIssue, IssueTellI. -/
import Derived.Test.YteccbaohfmhnfaaGreatRows
import Derived.Test.YteccbaohfmhnfaaGreatIA1
import Derived.Test.YteccbaohfmhnfaaGreatIA2
import Derived.Test.YteccbaohfmhnfaaGreatIL3
import Derived.Test.YteccbaohfmhnfaaGreatIL4
import Derived.Test.YteccbaohfmhnfaaGreatIL5
import Derived.Test.YteccbaohfmhnfaaGreatIL6
import Derived.Deep.RegionHeld3
import Derived.Maps.AppendAt
set_option linter.unusedVariables false
set_option linter.unusedSimpArgs false
namespace Go.Proofs.YteccbaohfmhnfaaGreat.Post2
open Go.ChangeShapes Go.WideShapes Go.ChangeAt Go.RowKit Bals Triples Cmp SOk3 IOk3 Tab Look SPut3 Out Legs Post
set_option maxRecDepth 100000 in
theorem iLacks (w : World) (B n gL m capL gS s capS : Nat) (f : Int → Int → Int) (ls : List T3) (xs : List Int) (b : Bool) (hl : ls.length = m) (hs : xs.length = s) (s20 : s ≤ 20) (hg : gL < w.heap.size) (hgs : gS < w.heap.size) (h : At3 w gL ls) (hx : Ints.At w gS xs) (hF : Formed ls) (ht : Tab w B n f) (hb : Says b (Lacks f ls xs)) :
    Calls Tryz.prog 147 #[.map (some B), .slice (some ⟨gL, 0, none⟩) m capL, .slice (some ⟨gS, 0, none⟩) s capS] w fun e w' => e = .returned (.bool b) ∧ Below w.heap.size w w' := by
  have m160 : m ≤ 160 := by have := hF.1; omega
  have H := hide h
  have HX := hide hx
  have HF := hide hF
  have T0 := hide ht
  have HS := hide hb
  clear h hF ht hx hb
  go_enter Tryz.func147, Tryz.ntmps147
  go_wp2
  go_loopw [8, 11] (fun _ j wr => ∃ (k : Nat), k ≤ m ∧ j = .int .i64 k ∧ Hid (Below w.heap.size w wr) ∧ Hid (∀ j, j < k → ¬ (f (el3 ls j).1 (el3 ls j).2.1 < 0 ∧ (el3 ls j).1 ∉ xs))) (fun _ j _ => m - (intOf j).toNat)
  case atStart => exact ⟨0, by omega, rfl, hide (Below.refl _ _), hide (fun j hj => by omega)⟩
  case round =>
    obtain ⟨k, hk, rfl, HB, HG⟩ := hrel
    by_cases t : k < m
    · obtain ⟨e1, e2, e3⟩ := (unhide H).below (unhide HB) hg k (by omega)
      obtain ⟨l1, l2, l3⟩ := (unhide HF).2 k (by omega)
      have WF := wf_no l1 l2
      obtain ⟨c, SC⟩ := says_of ((el3 ls k).1 ∈ xs)
      have YES := hide (show f (el3 ls k).1 (el3 ls k).2.1 < 0 ∧ (el3 ls k).1 ∉ xs → b = true from fun q => (unhide HS).of ⟨k, by omega, q.1, q.2⟩)
      have GO := hide (show ¬ (f (el3 ls k).1 (el3 ls k).2.1 < 0 ∧ (el3 ls k).1 ∉ xs) → ∀ j, j < k + 1 → ¬ (f (el3 ls j).1 (el3 ls j).2.1 < 0 ∧ (el3 ls j).1 ∉ xs) from fun q j hj => by
        by_cases e : j = k
        · subst e; exact q
        · exact (unhide HG) j (by omega))
      have bs := (unhide HB).size
      have X1 := hide ((unhide HX).below (next (unhide HB) (one_more wr (.cells #[.int .i64 (el3 ls k).1, .int .i64 (el3 ls k).2.1, .int .i64 (el3 ls k).2.2] 93))) hgs)
      have T1 := hide ((unhide T0).below (next (unhide HB) (one_more wr (.cells #[.int .i64 (el3 ls k).1, .int .i64 (el3 ls k).2.1, .int .i64 (el3 ls k).2.2] 93))))
      have B1 := hide ((unhide HB).alloc bs (.cells #[.int .i64 (el3 ls k).1, .int .i64 (el3 ls k).2.1, .int .i64 (el3 ls k).2.2] 93))
      clear l1 l2 l3
      generalize (el3 ls k).1 = x at *
      generalize (el3 ls k).2.1 = y at *
      generalize (el3 ls k).2.2 = z at *
      generalize hv : f x y = v at *
      have HV := hide hv
      clear hv
      by_cases v0 : v < 0
      · cases c
        · obtain rfl : b = true := (unhide YES) ⟨v0, SC.no⟩
          clear YES GO
          go_wp2_with (first | (at_lookup; refine wp_look _ rfl _ _ 136 rfl Tryz.underlying136 B n f rfl (unhide T1) x y rfl WF ?_; rw [unhide HV]) | (go_at_call 158; refine (iHas _ gS s capS xs x false hs (by omega) (unhide X1) SC).mono ?_; rintro e w2 ⟨rfl, rfl⟩) | go_in)
          go_ret
          exact ⟨rfl, unhide B1⟩
        · have G := hide ((unhide GO) (fun q => q.2 SC.yes))
          clear YES GO
          go_wp2_with (first | (at_lookup; refine wp_look _ rfl _ _ 136 rfl Tryz.underlying136 B n f rfl (unhide T1) x y rfl WF ?_; rw [unhide HV]) | (go_at_call 158; refine (iHas _ gS s capS xs x true hs (by omega) (unhide X1) SC).mono ?_; rintro e w2 ⟨rfl, rfl⟩) | go_in)
          go_roundw
          case rel => exact ⟨k + 1, by omega, by go_num, B1, G⟩
          case measure => simp [intOf]; omega
      · have G := hide ((unhide GO) (fun q => v0 q.1))
        clear YES GO
        go_wp2_with (first | (at_lookup; refine wp_look _ rfl _ _ 136 rfl Tryz.underlying136 B n f rfl (unhide T1) x y rfl WF ?_; rw [unhide HV]) | go_in)
        go_roundw
        case rel => exact ⟨k + 1, by omega, by go_num, B1, G⟩
        case measure => simp [intOf]; omega
    · obtain rfl : k = m := by omega
      obtain rfl : b = false := (unhide HS).not (fun r => by
        obtain ⟨j, hj, q⟩ := r
        exact (unhide HG) j (by omega) q)
      go_wp2
      go_ret
      exact ⟨rfl, unhide HB⟩
/-- What the program's post answers; with nothing against it the table tells all. -/
def IsCode (f : Int → Int → Int) (ls : List T3) (xs : List Int) (w' : World) (B : Nat) (c : Int) : Prop :=
  (¬ Even ls ∧ c = 2) ∨
  (Even ls ∧ posts f ls = none ∧ c = 4) ∨
  (∃ f', Even ls ∧ posts f ls = some f' ∧ Lacks f' ls xs ∧ c = 3) ∨
  (∃ f' qs, Even ls ∧ posts f ls = some f' ∧ ¬ Lacks f' ls xs ∧ ListOf f' qs ∧ ¬ qs.length ≤ 160 ∧ c = 5) ∨
  (∃ f' qs n, Even ls ∧ posts f ls = some f' ∧ ¬ Lacks f' ls xs ∧ ListOf f' qs ∧ qs.length ≤ 160 ∧ n ≤ 1000 ∧ Tab w' B n f' ∧ c = 0)
theorem ints_grown {w w' : World} {g B : Nat} {xs : List Int} (h : Ints.At w g xs) (k : w.grownBy w' (some B)) (hg : g < w.heap.size) (hne : g ≠ B) : Ints.At w' g xs := by
  intro i hi
  have e : w'.heap[g]? = w.heap[g]? := k.block g hg (by simp; exact hne)
  exact (World.cell?_of_block (w := w) (a := ⟨g, i, none⟩) e).trans (h i hi)
theorem below_row {w w' : World} (h : Below w.heap.size w w') (B : Nat) : w.grownBy w' (some B) := ⟨h.os, h.tape, h.output, h.size, fun j hj _ => h.block j hj⟩
set_option maxRecDepth 100000 in
theorem iPost (w : World) (B n gL m capL gS s capS : Nat) (f : Int → Int → Int) (ls : List T3) (xs : List Int) (hl : ls.length = m) (hs : xs.length = s) (s20 : s ≤ 20) (hn : n ≤ 200) (hg : gL < w.heap.size) (hgs : gS < w.heap.size) (ne1 : gL ≠ B) (ne2 : gS ≠ B) (h : At3 w gL ls) (hx : Ints.At w gS xs) (hF : Formed ls) (hf : Fine f) (ht : Tab w B n f) :
    Calls Tryz.prog 128 #[.map (some B), .slice (some ⟨gL, 0, none⟩) m capL, .slice (some ⟨gS, 0, none⟩) s capS] w fun e w' => ∃ c, e = .returned (.int .i64 c) ∧ IsCode f ls xs w' B c ∧ w.grownBy w' (some B) := by
  have m160 : m ≤ 160 := by have := hF.1; omega
  obtain ⟨b, SB⟩ := says_of (Even ls)
  have H := hide h
  have HX := hide hx
  have HF := hide hF
  have T0 := hide ht
  have FF := hide hf
  clear h hF ht hx hf
  go_enter Tryz.func128, Tryz.ntmps128
  go_wp2_with fail
  refine (iEven _ gL m capL ls b hl hg (unhide H) (unhide HF) SB).mono ?_
  rintro e w1 ⟨rfl, n1⟩
  have A1 := hide ((unhide H).below n1 hg)
  have X1 := hide ((unhide HX).below n1 hgs)
  have T1 := hide ((unhide T0).below n1)
  have G1 := hide (below_row n1 B)
  have s1 := n1.size
  clear n1
  cases b
  · go_wp2
    go_ret
    exact ⟨2, rfl, .inl ⟨SB.no, rfl⟩, unhide G1⟩
  go_wp2_with fail
  refine (iAddT _ B n gL m capL f ls hl (by omega) (by omega) ne1 (unhide A1) (unhide HF) (unhide FF) (unhide T1)).mono ?_
  rintro e w2 ⟨ok, rfl, hy, hno, g2⟩
  have HY := hide hy
  have HN := hide hno
  have A2 := hide (at3_grown (unhide A1) g2 (by omega) ne1)
  have X2 := hide (ints_grown (unhide X1) g2 (by omega) ne2)
  have G2 := hide (grown_trans (unhide G1) g2)
  have s2 := g2.size
  clear hy hno g2
  cases ok
  · have E := hide ((unhide HN) rfl)
    clear HY HN
    go_wp2
    go_ret
    exact ⟨4, rfl, .inr (.inl ⟨SB.yes, unhide E, rfl⟩), unhide G2⟩
  obtain ⟨f', E, t2, fi⟩ := (unhide HY) rfl
  have T2 := hide t2
  have EE := hide E
  clear HY HN t2 fi E
  obtain ⟨c, SC⟩ := says_of (Lacks f' ls xs)
  go_wp2_with fail
  refine (iLacks _ B (n + m) gL m capL gS s capS f' ls xs c hl hs s20 (by omega) (by omega) (unhide A2) (unhide X2) (unhide HF) (unhide T2) SC).mono ?_
  rintro e w3 ⟨rfl, n3⟩
  have T3 := hide ((unhide T2).below n3)
  have G3 := hide (grown_trans (unhide G2) (below_row n3 B))
  clear n3
  cases c
  · go_wp2_with fail
    refine (iBals _ B (n + m) f' (by omega) (unhide T3)).mono ?_
    rintro e w4 ⟨qs, g4, c4, lo, ll, rfl, o4, n4⟩
    have LO := hide lo
    have T4 := hide ((unhide T3).below n4)
    have G4 := hide (grown_trans (unhide G3) (below_row n4 B))
    clear lo o4 n4
    by_cases ln : qs.length ≤ 160
    · have ln2 : ¬ (160 : Int) < (qs.length : Int) := by omega
      go_wp2
      go_ret
      exact ⟨0, rfl, .inr (.inr (.inr (.inr ⟨f', qs, n + m, SB.yes, unhide EE, SC.no, unhide LO, ln, by omega, unhide T4, rfl⟩))), unhide G4⟩
    · have ln2 : (160 : Int) < (qs.length : Int) := by omega
      go_wp2
      go_ret
      exact ⟨5, rfl, .inr (.inr (.inr (.inl ⟨f', qs, SB.yes, unhide EE, SC.no, unhide LO, ln, rfl⟩))), unhide G4⟩
  · go_wp2
    go_ret
    exact ⟨3, rfl, .inr (.inr (.inl ⟨f', SB.yes, unhide EE, SC.yes, rfl⟩)), unhide G3⟩
/-- What a call answers: a list of its own. -/
def PostAnswers (w : World) (ps ls : List T3) (xs : List Int) (e : Ending) (w' : World) : Prop :=
  ∃ qs c g cap, IsPost ps ls xs qs c ∧ e = .returned (.tuple #[.slice (some ⟨g, 0, none⟩) qs.length cap, .int .i64 c]) ∧ Own3 102 w' w.heap.size g qs.length cap qs ∧ Below w.heap.size w w'
theorem none_posted {w u : World} {ps ls : List T3} {xs : List Int} (hp : IsPost ps ls xs [] 1) (hb : Below w.heap.size w u) : PostAnswers w ps ls xs (.returned (.tuple #[.slice (some ⟨u.heap.size, 0, none⟩) 0 0, .int .i64 1])) (u.alloc (.cells #[] 102)) :=
  ⟨[], 1, u.heap.size, 0, hp, rfl, lit30 _ _ _ hb.size, hb.alloc hb.size _⟩
set_option maxRecDepth 100000 in
set_option maxHeartbeats 1000000 in
theorem iBalsPost (w : World) (g n cap gL m capL gS s capS : Nat) (ps ls : List T3) (xs : List Int) (hp : ps.length = n) (hl : ls.length = m) (hs : xs.length = s) (n20 : n ≤ 1048576) (m20 : m ≤ 1048576) (s20 : s ≤ 1048576)
    (hg : g < w.heap.size) (hgL : gL < w.heap.size) (hgS : gS < w.heap.size) (h : At3 w g ps) (hL : At3 w gL ls) (hX : Ints.At w gS xs) :
    Calls Tryz.prog 107 #[.slice (some ⟨g, 0, none⟩) n cap, .slice (some ⟨gL, 0, none⟩) m capL, .slice (some ⟨gS, 0, none⟩) s capS] w (PostAnswers w ps ls xs) := by
  obtain ⟨b0, S0⟩ := says_of (Right ps)
  obtain ⟨b1, S1⟩ := says_of (Formed ls)
  have BAD := hide (show ¬ (b0 = true ∧ b1 = true ∧ s ≤ 20) → IsPost ps ls xs [] 1 from fun hb => .bad (fun r => hb ⟨S0.of r.1, S1.of r.2.1, by omega⟩))
  have H := hide h
  have HL := hide hL
  have HX := hide hX
  clear h hL hX
  go_enter Tryz.func107, Tryz.ntmps107
  go_wp2_with fail
  refine (iOk _ g n cap ps b0 hp n20 hg (unhide H) S0).mono ?_
  rintro e w1 ⟨rfl, n1⟩
  have A1 := hide ((unhide H).below n1 hg)
  have L1 := hide ((unhide HL).below n1 hgL)
  have X1 := hide ((unhide HX).below n1 hgS)
  have B1 := hide n1
  have s1 := n1.size
  clear n1
  cases b0
  · have P0 := hide ((unhide BAD) (fun q => by cases q.1))
    go_wp2
    go_ret2
    exact none_posted (unhide P0) (unhide B1)
  go_wp2_with fail
  refine (iFormed _ gL m capL ls b1 hl m20 (by omega) (unhide L1) S1).mono ?_
  rintro e w2 ⟨rfl, n2⟩
  have A2 := hide ((unhide A1).below n2 (by omega))
  have L2 := hide ((unhide L1).below n2 (by omega))
  have X2 := hide ((unhide X1).below n2 (by omega))
  have B2 := hide (next (unhide B1) n2)
  have s2 := n2.size
  clear n2
  cases b1
  · have P0 := hide ((unhide BAD) (fun q => by cases q.2.1))
    go_wp2
    go_ret2
    exact none_posted (unhide P0) (unhide B2)
  by_cases ts : s ≤ 20
  · have ts2 : ¬ (20 : Int) < (s : Int) := by omega
    have ALL := hide (show Right ps ∧ Formed ls ∧ xs.length ≤ 20 from ⟨S0.yes, S1.yes, by omega⟩)
    have n160 : n ≤ 160 := by have := S0.yes.1; omega
    have FF := hide (fine_of S0.yes)
    clear BAD
    go_wp2_with fail
    refine (iTable _ g n cap ps hp (by omega) (unhide A2) S0.yes).mono ?_
    rintro e w3 ⟨rfl, t3, n3⟩
    have A3 := hide ((unhide A2).below n3 (by omega))
    have L3 := hide ((unhide L2).below n3 (by omega))
    have X3 := hide ((unhide X2).below n3 (by omega))
    have B3 := hide (next (unhide B2) n3)
    have T3 := hide t3
    have s3 := n3.size
    have tl := t3.lt
    clear n3 t3
    go_wp2_with fail
    refine (iPost _ w2.heap.size n gL m capL gS s capS (val ps) ls xs hl hs ts (by omega) (by omega) (by omega) (by omega) (by omega) (unhide L3) (unhide X3) S1.yes (unhide FF) (unhide T3)).mono ?_
    rintro e w4 ⟨c, rfl, hc, g4⟩
    have A4 := hide (at3_grown (unhide A3) g4 (by omega) (by omega))
    have B4 := hide ((unhide B3).grown g4 (unhide B3).size (fun j hj => by cases hj; omega))
    have s4 := g4.size
    have b4 := (unhide B4).size
    have HC := hide hc
    clear g4 hc
    by_cases c0 : c = 0
    · subst c0
      have TT := hide (show ∃ f' qs k, Even ls ∧ posts (val ps) ls = some f' ∧ ¬ Lacks f' ls xs ∧ ListOf f' qs ∧ qs.length ≤ 160 ∧ k ≤ 1000 ∧ Tab w4 w2.heap.size k f' from by
        rcases unhide HC with ⟨_, e⟩ | ⟨_, _, e⟩ | ⟨_, _, _, _, e⟩ | ⟨_, _, _, _, _, _, _, e⟩ | ⟨f', qs, k, a, b, c, d, e, f, g, _⟩
        · omega
        · omega
        · omega
        · omega
        · exact ⟨f', qs, k, a, b, c, d, e, f, g⟩)
      obtain ⟨f', qs, k, EV, EP, NL, LO, LN, k1000, t4⟩ := unhide TT
      have T4 := hide t4
      have P0 := hide (IsPost.done f' qs (unhide ALL) EV EP NL LO LN)
      have LO := hide LO
      clear TT HC EV EP NL t4
      go_wp2_with fail
      refine (iBals _ w2.heap.size k f' (by omega) (unhide T4)).mono ?_
      rintro e w5 ⟨rs, g5, c5, lo, ll, rfl, o5, n5⟩
      obtain rfl := (unhide LO).same lo
      have O5 := hide (o5.rebase (base' := w.heap.size) (by have := o5.lt.1; omega))
      have B5 := hide (next (unhide B4) n5)
      clear lo o5 n5
      go_wp2
      go_ret2
      exact ⟨_, 0, g5, c5, unhide P0, rfl, unhide O5, unhide B5⟩
    · have P0 := hide (show IsPost ps ls xs ps c from by
        rcases unhide HC with ⟨a, rfl⟩ | ⟨a, b, rfl⟩ | ⟨f', a, b, d, rfl⟩ | ⟨f', qs, a, b, d, e, q, rfl⟩ | ⟨_, _, _, _, _, _, _, _, _, _, e⟩
        · exact .uneven (unhide ALL) a
        · exact .large (unhide ALL) a b
        · exact .short f' (unhide ALL) a b d
        · exact .full f' qs (unhide ALL) a b d e q
        · exact absurd e c0)
      have c0b : (c == 0) = false := by simpa using c0
      clear HC
      have Z := hide (lit30 102 w4 w.heap.size b4)
      have A5 := hide ((unhide A4).below (one_more w4 (.cells #[] 102)) (by omega))
      go_wp2_with (first | (at_builtin; refine BalApp.wp_copy _ rfl _ _ rfl w.heap.size w4.heap.size n 0 ps g cap rfl rfl (unhide Z) hp (unhide A5) (by omega) (by simp; omega) ?_) | go_in)
      intro g6 c6 w6 o6 gr6 _
      have O6 := hide o6
      have B6 := hide (((unhide B4).alloc b4 (.cells #[] 102)).grown gr6 (by simp; omega) (fun j hj => by cases hj; exact b4))
      clear o6 gr6
      go_wp2
      go_ret2
      exact ⟨ps, c, g6, c6, unhide P0, by rw [hp]; rfl, by rw [hp]; exact unhide O6, unhide B6⟩
  · have ts2 : (20 : Int) < (s : Int) := by omega
    have P0 := hide ((unhide BAD) (fun q => ts q.2.2))
    go_wp2
    go_ret2
    exact none_posted (unhide P0) (unhide B2)
end Go.Proofs.YteccbaohfmhnfaaGreat.Post2
namespace Go.Proofs.YteccbaohfmhnfaaGreat.SPost
open Go.ChangeShapes Go.WideShapes Go.ChangeAt Go.RowKit Bals Triples Cmp SOk3 IOk3 Tab Look SPut3 Out Legs Post Post2
theorem ints_drewN {w : World} {g : Nat} {xs : List Int} (h : Ints.At w g xs) (m : Nat) : Ints.At (w.drewN m) g xs := h
set_option maxRecDepth 100000 in
set_option maxHeartbeats 4000000 in
theorem sBalsPost (w : World) (g n cap gL m capL gS s capS : Nat) (ps ls : List T3) (xs : List Int) (hp : ps.length = n) (hl : ls.length = m) (hs : xs.length = s) (n20 : n ≤ 1048576) (m20 : m ≤ 1048576) (s20 : s ≤ 1048576)
    (hg : g < w.heap.size) (hgL : gL < w.heap.size) (hgS : gS < w.heap.size) (h : At3 w g ps) (hL : At3 w gL ls) (hX : Ints.At w gS xs) :
    Calls Tryz.prog 58 #[.slice (some ⟨g, 0, none⟩) n cap, .slice (some ⟨gL, 0, none⟩) m capL, .slice (some ⟨gS, 0, none⟩) s capS] w (PostAnswers w ps ls xs) := by
  obtain ⟨b0, S0⟩ := says_of (Right ps)
  obtain ⟨b1, S1⟩ := says_of (Formed ls)
  have BAD := hide (show ¬ (b0 = true ∧ b1 = true ∧ s ≤ 20) → IsPost ps ls xs [] 1 from fun hb => .bad (fun r => hb ⟨S0.of r.1, S1.of r.2.1, by omega⟩))
  have H := hide h
  have HL := hide hL
  have HX := hide hX
  clear h hL hX
  go_enter Tryz.func58, Tryz.ntmps58
  go_wp2_with fail
  refine (sOk _ g n cap ps b0 hp n20 hg (unhide H) S0).mono ?_
  rintro e w1 ⟨rfl, n1⟩
  have A1 := hide ((unhide H).below n1 hg)
  have L1 := hide ((unhide HL).below n1 hgL)
  have B1 := hide n1
  have s1 := n1.size
  clear n1
  cases b0
  · have P0 := hide ((unhide BAD) (fun q => by cases q.1))
    go_wp2
    go_ret2
    exact none_posted (unhide P0) (unhide B1)
  go_wp2_with fail
  refine (sRight _ gL m capL ls b1 hl m20 (unhide L1) S1).mono ?_
  rintro e w2 ⟨rfl, rfl⟩
  cases b1
  · have P0 := hide ((unhide BAD) (fun q => by cases q.2.1))
    go_wp2
    go_ret2
    exact none_posted (unhide P0) (unhide B1)
  by_cases ts : ¬ s ≤ 20
  · have ts2 : (20 : Int) < (s : Int) := by omega
    have P0 := hide ((unhide BAD) (fun q => ts q.2.2))
    go_wp2
    go_ret2
    exact none_posted (unhide P0) (unhide B1)
  have ts : s ≤ 20 := by omega
  have ts2 : ¬ (20 : Int) < (s : Int) := by omega
  have ALL := hide (show Right ps ∧ Formed ls ∧ xs.length ≤ 20 from ⟨S0.yes, S1.yes, by omega⟩)
  have n160 : n ≤ 160 := by have := S0.yes.1; omega
  have m160 : m ≤ 160 := by have := S1.yes.1; omega
  have FF := hide (fine_of S0.yes)
  clear BAD
  have bq := (unhide B1).size
  have Z := hide (lit30 102 w2 w.heap.size bq)
  have A5 := hide ((unhide A1).below (one_more w2 (.cells #[] 102)) (by omega))
  go_wp2_with (first | (at_builtin; refine BalApp.wp_copy _ rfl _ _ rfl w.heap.size w2.heap.size n 0 ps g cap rfl rfl (unhide Z) hp (unhide A5) (by omega) (by simp; omega) ?_) | go_in)
  intro g6 c6 w6 o6 gr6 _
  have O6 := hide o6
  have B6 := hide (((unhide B1).alloc bq (.cells #[] 102)).grown gr6 (by simp; omega) (fun j hj => by cases hj; exact bq))
  clear o6 gr6
  have gl6 := (unhide O6).lt.2
  have b6 := (unhide B6).size
  obtain ⟨b, SB⟩ := says_of (Formed ls ∧ Even ls)
  go_wp2_with fail
  refine (sLegsOk _ gL m capL ls b hl m20 ((unhide HL).below (unhide B6) hgL) SB).mono ?_
  rintro e w7 ⟨rfl, q7, rfl⟩
  have O7 := hide (show Own3 102 (w6.drewN q7) w.heap.size g6 n c6 ps from unhide O6)
  have B7 := hide (below_drewN (unhide B6) q7)
  generalize w6.drewN q7 = w7 at *
  clear A1 L1 B1 Z A5 B6 O6 gl6 b6 bq s1
  cases b
  · have P0 := hide (IsPost.uneven (unhide ALL) (fun e => SB.no ⟨S1.yes, e⟩))
    go_wp2
    go_ret2
    exact ⟨ps, 2, g6, c6, unhide P0, by rw [hp]; rfl, by rw [hp]; exact unhide O7, unhide B7⟩
  have EV := hide SB.yes.2
  go_wp2
  go_loopw [9, 10, 11, 12] (fun l j _ _ wr => ∃ (out : List T3) (gO cO k : Nat), l = .slice (some ⟨gO, 0, none⟩) out.length cO ∧ j = .int .i64 k ∧ k ≤ m ∧ out.length ≤ 160 + k ∧ Hid (Own3 102 wr w.heap.size gO out.length cO out) ∧ Hid (Below w.heap.size w wr) ∧ Hid (Bals.Good out) ∧ Hid (Fine (val out)) ∧ Hid (posts (val ps) ls = posts (val out) (ls.drop k))) (fun _ j _ _ _ => m - (intOf j).toNat)
  case atStart => exact ⟨ps, g6, c6, 0, by rw [hp], rfl, by omega, by omega, hide (by rw [hp]; exact unhide O7), B7, hide S0.yes.good, FF, hide rfl⟩
  case round =>
    clear O7 B7
    obtain ⟨out, gO, cO, k, rfl, rfl, hk, ol, HO, HB, GD, FN, HE⟩ := hrel
    have gol := (unhide HO).lt.2
    have bs := (unhide HB).size
    by_cases t : k < m
    · obtain ⟨e1, e2, e3⟩ := (unhide HL).below (unhide HB) hgL k (by omega)
      obtain ⟨l1, l2, l3⟩ := S1.yes.2 k (by omega)
      have AM := ((unhide FN) (el3 ls k).1 (el3 ls k).2.1).1
      obtain ⟨c, SC⟩ := says_of (Amt (val out (el3 ls k).1 (el3 ls k).2.1 + (el3 ls k).2.2))
      have PY := hide (fun a => (unhide HE).trans (posts_yes (f := val out) (ps := ls) (k := k) (by omega) a))
      have PN := hide (fun a => (unhide HE).trans (posts_no (f := val out) (ps := ls) (k := k) (by omega) a))
      have FU := hide (fun a => (unhide FN).upd (a := (el3 ls k).1) (i := (el3 ls k).2.1) (x := val out (el3 ls k).1 (el3 ls k).2.1 + (el3 ls k).2.2) l1 l2 a)
      have OFC := hide (fun q => sOf (wr.drewN q) gO out.length cO out (el3 ls k).1 (el3 ls k).2.1 rfl (by omega) (at_drewN (unhide HO).at q))
      clear HE FN
      generalize (el3 ls k).1 = x at *
      generalize (el3 ls k).2.1 = y at *
      generalize (el3 ls k).2.2 = z at *
      generalize hv : val out x y = v at *
      have HV := hide hv
      clear hv
      have kn : (k : Int) < (m : Int) := by omega
      go_wp2_with fail
      go_quiet (first | (go_at_call 91; refine Calls.quiet_of_same ((unhide OFC) _)) | (go_at_call 94; refine Calls.quiet_of_same (sAdd v z c _ AM l3 SC)))
      have O1 := hide (show Own3 102 (wr.drewN nq) w.heap.size gO out.length cO out from unhide HO)
      have B1 := hide (below_drewN (unhide HB) nq)
      have d1 : (wr.drewN nq).cell? ⟨gL, k * 3, none⟩ = some (.int .i64 x) := e1
      have d2 : (wr.drewN nq).cell? ⟨gL, k * 3 + 1, none⟩ = some (.int .i64 y) := e2
      clear HO HB e1 e2 e3 OFC
      generalize wr.drewN nq = u at *
      have gol := (unhide O1).lt.2
      have bs := (unhide B1).size
      cases c
      · have P0 := hide (IsPost.large (unhide ALL) (unhide EV) ((unhide PN) SC.no))
        have A1 := hide ((unhide H).below (unhide B1) hg)
        clear PY PN FU d1 d2
        have bq := (unhide B1).size
        have Z := hide (lit30 102 u w.heap.size bq)
        have A5 := hide ((unhide A1).below (one_more u (.cells #[] 102)) (by omega))
        go_wp2_with (first | (at_builtin; refine BalApp.wp_copy _ rfl _ _ rfl w.heap.size u.heap.size n 0 ps g cap rfl rfl (unhide Z) hp (unhide A5) (by omega) (by simp; omega) ?_) | go_in)
        intro g6 c6 w6 o6 gr6 _
        have O6 := hide o6
        have B6 := hide (((unhide B1).alloc bq (.cells #[] 102)).grown gr6 (by simp; omega) (fun j hj => by cases hj; exact bq))
        clear o6 gr6
        go_wp2
        go_ret2
        exact ⟨ps, 4, g6, c6, unhide P0, by rw [hp]; rfl, by rw [hp]; exact unhide O6, unhide B6⟩
      · have YES := hide ((unhide PY) SC.yes)
        have FN2 := hide ((unhide FU) SC.yes)
        clear PY PN FU
        have e0 : sumIn v z true = v + z := rfl
        rw [e0]
        clear e0
        generalize hS : v + z = S at *
        clear hS
        obtain ⟨p0, hp0⟩ : ∃ p0 : Bool, (S == 0) = p0 := ⟨_, rfl⟩
        have PV := hide (put_val (x, y, S) out p0 (unhide GD) (by rw [← hp0]; simp))
        have LN := hide (putL_len (x, y, S) out p0)
        have HP := hide hp0
        clear hp0
        have k0 : (0 : Int) ≤ (k : Int) := by omega
        have gLu : gL < u.heap.size := by omega
        go_wp2_with fail
        go_region_held3 (fun w' => w'.cell? ⟨gL, k * 3, none⟩ = some (.int .i64 x) ∧ w'.cell? ⟨gL, k * 3 + 1, none⟩ = some (.int .i64 y)) (go_keep)
          (first | (go_at_call 95; refine (sPut _ gO out.length cO out x y S p0 rfl (by omega) (by exact gol) (by exact (unhide O1).at) (unhide HP)).mono ?_; rintro e w5 ⟨g5, c5, rfl, o5, n5⟩; have h1 : w5.cell? ⟨gL, k * 3, none⟩ = some (.int .i64 x) := (n5.cell (p := ⟨gL, k * 3, none⟩) (by exact gLu)).trans (by exact d1); have h2 : w5.cell? ⟨gL, k * 3 + 1, none⟩ = some (.int .i64 y) := (n5.cell (p := ⟨gL, k * 3 + 1, none⟩) (by exact gLu)).trans (by exact d2)))
        have O5 := hide (o5.rebase (base' := w.heap.size) (by have : u.heap.size ≤ g5 := o5.lt.1; omega))
        have B5 := hide (next (unhide B1) (show Below u.heap.size u w5 from ⟨n5.os, n5.tape, n5.output, n5.size, n5.block⟩))
        have VE : val (putL (x, y, S) out p0) = upd (val out) x y S := funext fun b => funext fun j => (unhide PV).2 b j
        have FN3 := hide (show Fine (val (putL (x, y, S) out p0)) from by rw [VE]; exact unhide FN2)
        have YE3 := hide (show posts (val ps) ls = posts (val (putL (x, y, S) out p0)) (ls.drop (k + 1)) from by rw [VE]; exact unhide YES)
        have LL : (putL (x, y, S) out p0).length ≤ out.length + 1 := by have := unhide LN; split at this <;> omega
        have GD3 := hide (unhide PV).1
        clear o5 n5 VE PV LN YES FN2 d1 d2 O1 B1
        generalize putL (x, y, S) out p0 = qs at *
        go_wp2
        go_roundw
        case rel => exact ⟨qs, g5, c5, k + 1, rfl, by go_num, by omega, by omega, O5, B5, GD3, FN3, YE3⟩
        case measure => simp [intOf]; omega
    · obtain rfl : k = m := by omega
      have EP := hide (show posts (val ps) ls = some (val out) from by rw [unhide HE, List.drop_of_length_le (by omega)]; rfl)
      have LO := hide (show ListOf (val out) out from ⟨unhide GD, fun _ _ => rfl⟩)
      clear HE
      go_wp2
      generalize wr = w8 at *
      go_loopw [13] (fun j wr => ∃ (i : Nat), j = .int .i64 i ∧ i ≤ k ∧ Hid (∃ q, wr = w8.drewN q) ∧ Hid (∀ j, j < i → ¬ (val out (el3 ls j).1 (el3 ls j).2.1 < 0 ∧ (el3 ls j).1 ∉ xs))) (fun j _ => k - (intOf j).toNat)
      case atStart => exact ⟨0, rfl, by omega, hide ⟨0, rfl⟩, hide (fun j hj => by omega)⟩
      case round =>
        obtain ⟨i, rfl, hi, HQ, HG⟩ := hrel
        obtain ⟨q8, e8⟩ := unhide HQ
        have O1 := hide (show Own3 102 wr w.heap.size gO out.length cO out from by rw [e8]; exact unhide HO)
        have B1 := hide (show Below w.heap.size w wr from by rw [e8]; exact below_drewN (unhide HB) q8)
        clear e8
        have gol := (unhide O1).lt.2
        have bs := (unhide B1).size
        by_cases t : i < k
        · obtain ⟨e1, e2, e3⟩ := (unhide HL).below (unhide B1) hgL i (by omega)
          obtain ⟨c, SC⟩ := says_of ((el3 ls i).1 ∈ xs)
          have YES := hide (show val out (el3 ls i).1 (el3 ls i).2.1 < 0 ∧ (el3 ls i).1 ∉ xs → Lacks (val out) ls xs from fun q => ⟨i, by omega, q.1, q.2⟩)
          have GO := hide (show ¬ (val out (el3 ls i).1 (el3 ls i).2.1 < 0 ∧ (el3 ls i).1 ∉ xs) → ∀ j, j < i + 1 → ¬ (val out (el3 ls j).1 (el3 ls j).2.1 < 0 ∧ (el3 ls j).1 ∉ xs) from fun q j hj => by
            by_cases e : j = i
            · subst e; exact q
            · exact (unhide HG) j (by omega))
          have OFC := hide (fun q => sOf (wr.drewN q) gO out.length cO out (el3 ls i).1 (el3 ls i).2.1 rfl (by omega) (at_drewN (unhide O1).at q))
          have HAC := hide (fun q => sHas (wr.drewN q) gS s capS xs (el3 ls i).1 c hs s20 (ints_drewN ((unhide HX).below (unhide B1) hgS) q) SC)
          generalize (el3 ls i).1 = x at *
          generalize (el3 ls i).2.1 = y at *
          generalize (el3 ls i).2.2 = z at *
          generalize hv : val out x y = v at *
          have HV := hide hv
          clear hv
          have kn : (i : Int) < (k : Int) := by omega
          by_cases v0 : v < 0
          · cases c
            · have P0 := hide (IsPost.short (val out) (unhide ALL) (unhide EV) (unhide EP) ((unhide YES) ⟨v0, SC.no⟩))
              clear YES GO
              go_wp2_with fail
              go_quiet (first | (go_at_call 91; refine Calls.quiet_of_same ((unhide OFC) _)) | (go_at_call 96; refine Calls.quiet_of_same ((unhide HAC) _)))
              have B2 := hide (below_drewN (unhide B1) nq)
              clear O1 B1 e1 e2 e3 OFC HAC
              generalize wr.drewN nq = u at *
              have A1 := hide ((unhide H).below (unhide B2) hg)
              have bu := (unhide B2).size
              have bq := (unhide B2).size
              have Z := hide (lit30 102 u w.heap.size bq)
              have A5 := hide ((unhide A1).below (one_more u (.cells #[] 102)) (by omega))
              go_wp2_with (first | (at_builtin; refine BalApp.wp_copy _ rfl _ _ rfl w.heap.size u.heap.size n 0 ps g cap rfl rfl (unhide Z) hp (unhide A5) (by omega) (by simp; omega) ?_) | go_in)
              intro g6 c6 w6 o6 gr6 _
              have O6 := hide o6
              have B6 := hide (((unhide B2).alloc bq (.cells #[] 102)).grown gr6 (by simp; omega) (fun j hj => by cases hj; exact bq))
              clear o6 gr6
              go_wp2
              go_ret2
              exact ⟨ps, 3, g6, c6, unhide P0, by rw [hp]; rfl, by rw [hp]; exact unhide O6, unhide B6⟩
            · have G := hide ((unhide GO) (fun q => q.2 SC.yes))
              clear YES GO
              go_wp2_with fail
              go_quiet (first | (go_at_call 91; refine Calls.quiet_of_same ((unhide OFC) _)) | (go_at_call 96; refine Calls.quiet_of_same ((unhide HAC) _)))
              go_wp2
              go_roundw
              case rel => exact ⟨i + 1, by go_num, by omega, hide (drewN_more (unhide HQ) _), G⟩
              case measure => simp [intOf]; omega
          · have G := hide ((unhide GO) (fun q => v0 q.1))
            have v0b : decide (v < 0) = false := decide_eq_false v0
            clear YES GO
            go_wp2_with fail
            go_quiet (first | (go_at_call 91; refine Calls.quiet_of_same ((unhide OFC) _)))
            go_wp2
            go_roundw
            case rel => exact ⟨i + 1, by go_num, by omega, hide (drewN_more (unhide HQ) _), G⟩
            case measure => simp [intOf]; omega
        · obtain rfl : i = k := by omega
          have NL := hide (show ¬ Lacks (val out) ls xs from fun r => by
            obtain ⟨j, hj, q⟩ := r
            exact (unhide HG) j (by omega) q)
          by_cases ln : out.length ≤ 160
          · have ln2 : ¬ (160 : Int) < (out.length : Int) := by omega
            have P0 := hide (IsPost.done (val out) out (unhide ALL) (unhide EV) (unhide EP) (unhide NL) (unhide LO) ln)
            go_wp2
            go_ret2
            exact ⟨out, 0, gO, cO, unhide P0, rfl, unhide O1, unhide B1⟩
          · have ln2 : (160 : Int) < (out.length : Int) := by omega
            have P0 := hide (IsPost.full (val out) out (unhide ALL) (unhide EV) (unhide EP) (unhide NL) (unhide LO) ln)
            have A1 := hide ((unhide H).below (unhide B1) hg)
            have bq := (unhide B1).size
            have Z := hide (lit30 102 wr w.heap.size bq)
            have A5 := hide ((unhide A1).below (one_more wr (.cells #[] 102)) (by omega))
            go_wp2_with (first | (at_builtin; refine BalApp.wp_copy _ rfl _ _ rfl w.heap.size wr.heap.size n 0 ps g cap rfl rfl (unhide Z) hp (unhide A5) (by omega) (by simp; omega) ?_) | go_in)
            intro g6 c6 w6 o6 gr6 _
            have O6 := hide o6
            have B6 := hide (((unhide B1).alloc bq (.cells #[] 102)).grown gr6 (by simp; omega) (fun j hj => by cases hj; exact bq))
            clear o6 gr6
            go_wp2
            go_ret2
            exact ⟨ps, 5, g6, c6, unhide P0, by rw [hp]; rfl, by rw [hp]; exact unhide O6, unhide B6⟩
end Go.Proofs.YteccbaohfmhnfaaGreat.SPost
namespace Go.Proofs.YteccbaohfmhnfaaGreat.Shorts
open Go.ChangeShapes Go.WideShapes Go.ChangeAt Go.RowKit BMem Bks ILists
theorem own_of_row {w : World} {base n n' : Nat} {v : Value} {vs : List Value} {xs : List Int} (h : w.ownsRow base 3 1 v n vs) (hn : n = n') (e : vs = xs.map (Value.int .i64)) (hv : ¬ v = .slice none 0 0) :
    ∃ g c, v = .slice (some ⟨g, 0, none⟩) n' c ∧ Ints.Own w base g n' c xs := by
  subst hn e
  have h' := h
  rcases h.2 with ⟨h1, _⟩ | ⟨g, c, cur, rfl, _⟩
  · exact absurd h1 hv
  · exact ⟨g, c, rfl, h'⟩
theorem own_alloc {w : World} {base g n cap : Nat} {xs : List Int} (h : Ints.Own w base g n cap xs) (o : Obj) : Ints.Own (w.alloc o) base g n cap xs := World.ownsRow.alloc h o
theorem lit0 (w : World) (base : Nat) {g : Nat} (hb : base ≤ w.heap.size) (hg : g = w.heap.size) : Ints.Own (w.alloc (.cells #[] 3)) base g 0 0 [] := by
  subst hg
  exact World.ownsRow_lit w #[] 0 hb (by decide) rfl
/-- A number appended to a list of numbers. -/
theorem wp_appI (u : World) {ops : Array Oper} {rest : List Oper} {o : Oper} {a : Act} {Q : Exit → Act → World → Prop} (hgd : o.guard = none) (s x : Operand)
    (ho : o.op = .call { callee := .builtin .append, args := #[s, x], argTypes := #[90, 90] }) (base g n cap : Nat) (xs : List Int) (vb : Nat) (y : Int)
    (hs : a.eval s = .slice (some ⟨g, 0, none⟩) n cap) (hx : a.eval x = .slice (some ⟨vb, 0, none⟩) 1 1) (hown : Ints.Own u base g n cap xs) (hv : u.cell? ⟨vb, 0, none⟩ = some (.int .i64 y)) (hn : n ≤ 1048576) (hb : base ≤ u.heap.size)
    (h : ∀ g' c' w', Ints.Own w' base g' (n + 1) c' (xs ++ [y]) → u.grownBy w' (some g) → (g' = g ∨ g' = u.heap.size) → wpList Tryz.prog ops Q rest (a.put o.dst (.slice (some ⟨g', 0, none⟩) (n + 1) c')) w') : wpList Tryz.prog ops Q (o :: rest) a u := by
  obtain ⟨i0, hi, hz0, hz1, hz2⟩ := info_parts Ints.info3
  refine wpList_append_own_at u hgd s x 90 ho base 3 i0 (.int .i64 0) 1 8 Tryz.underlying90 hi hz0 hz1 hz2 rfl (by decide) _ n _ hs hown ⟨vb, 0, none⟩ 1 1 [.int .i64 y] hx rfl (fun j v hj => by
    cases j with
    | zero =>
      have e : v = .int .i64 y := by simpa using hj.symm
      rw [e]
      simpa [Addr.add] using hv
    | succ j => simp at hj) (by simp [Value.oneCell']) (by unfold maxLen; omega) (by omega) hb ?_
  intro v' w' own' gr' nil' loc'
  obtain ⟨g', c', rfl, o'⟩ := own_of_row (n' := n + 1) (xs := xs ++ [y]) own' rfl (by simp) (by rw [nil']; simp)
  exact h g' c' w' o' gr' (by simpa [Value.ownBlock] using loc')
theorem at_pair (w : World) (a c i q : Int) (e : TypeId) : Triples.At3 (w.alloc (.cells #[.int .i64 a, .int .i64 i, .int .i64 (-q), .int .i64 c, .int .i64 i, .int .i64 q] e)) w.heap.size (pairL a c i q) := by
  intro k hk
  have : k = 0 ∨ k = 1 := by simp [pairL] at hk; omega
  rcases this with rfl | rfl
  · unfold Triples.Holds3
    simp [pairL]
  · unfold Triples.Holds3
    simp [pairL]
set_option maxRecDepth 100000 in
theorem sPair (w : World) (a c i q : Int) (q1 : 1 ≤ q) (q2 : q ≤ 1000000000000000) :
    Calls Tryz.prog 23 #[.int .i64 a, .int .i64 c, .int .i64 i, .int .i64 q] w fun e w' => ∃ g, e = .returned (.slice (some ⟨g, 0, none⟩) 2 2) ∧ g < w'.heap.size ∧ Triples.At3 w' g (pairL a c i q) ∧ Below w.heap.size w w' := by
  have A := hide (at_pair w a c i q 93)
  go_enter Tryz.func23, Tryz.ntmps23
  go_wp2
  go_ret
  exact ⟨w.heap.size, rfl, by simp, unhide A, (Below.refl _ _).alloc (Nat.le_refl _) _⟩
set_option maxRecDepth 100000 in
theorem iGiven (w : World) (a c i q : Int) (q1 : 1 ≤ q) (q2 : q ≤ 1000000000000000) :
    Calls Tryz.prog 77 #[.int .i64 a, .int .i64 c, .int .i64 i, .int .i64 q] w fun e w' => ∃ g, e = .returned (.slice (some ⟨g, 0, none⟩) 2 2) ∧ g < w'.heap.size ∧ Triples.At3 w' g (pairL a c i q) ∧ Below w.heap.size w w' := by
  have A := hide (at_pair w a c i q 93)
  go_enter Tryz.func77, Tryz.ntmps77
  go_wp2
  go_ret
  exact ⟨w.heap.size, rfl, by simp, unhide A, (Below.refl _ _).alloc (Nat.le_refl _) _⟩
set_option maxRecDepth 100000 in
set_option maxHeartbeats 2000000 in
theorem sShort (w : World) (x : Bx) (h : Rd w x) :
    Calls Tryz.prog 59 #[.agg #[.slice (some ⟨x.ga, 0, none⟩) x.b.ac.length x.ca, .slice (some ⟨x.gi, 0, none⟩) x.b.ic.length x.ci, .slice (some ⟨x.gb, 0, none⟩) x.b.bs.length x.cb, .slice (some ⟨x.gl, 0, none⟩) x.b.ls.length x.cl, .slice (some ⟨x.gt, 0, none⟩) x.b.ts.length x.ct, .int .i64 x.b.lot]] w fun e w' => ∃ g c, e = .returned (.slice (some ⟨g, 0, none⟩) (shortL x.b.ac).length c) ∧ Ints.Own w' w.heap.size g (shortL x.b.ac).length c (shortL x.b.ac) ∧ Below w.heap.size w w' := by
  have na := h.na
  have la := h.la
  have R0 := hide ((h.alloc (.cells #[.slice (some ⟨x.ga, 0, none⟩) x.b.ac.length x.ca, .slice (some ⟨x.gi, 0, none⟩) x.b.ic.length x.ci, .slice (some ⟨x.gb, 0, none⟩) x.b.bs.length x.cb, .slice (some ⟨x.gl, 0, none⟩) x.b.ls.length x.cl, .slice (some ⟨x.gt, 0, none⟩) x.b.ts.length x.ct, .int .i64 x.b.lot] 36)).alloc (.cells #[] 3))
  have O0 := hide (lit0 (w.alloc (.cells #[.slice (some ⟨x.ga, 0, none⟩) x.b.ac.length x.ca, .slice (some ⟨x.gi, 0, none⟩) x.b.ic.length x.ci, .slice (some ⟨x.gb, 0, none⟩) x.b.bs.length x.cb, .slice (some ⟨x.gl, 0, none⟩) x.b.ls.length x.cl, .slice (some ⟨x.gt, 0, none⟩) x.b.ts.length x.ct, .int .i64 x.b.lot] 36)) (w.heap.size + 1) (g := w.heap.size + 1) (by simp) (by simp))
  have C0 := hide ((boxed w x 36).below (IBalsFit.one_more _ (.cells #[] 3)) (by simp))
  have B0 := hide (show Below w.heap.size w ((w.alloc (.cells #[.slice (some ⟨x.ga, 0, none⟩) x.b.ac.length x.ca, .slice (some ⟨x.gi, 0, none⟩) x.b.ic.length x.ci, .slice (some ⟨x.gb, 0, none⟩) x.b.bs.length x.cb, .slice (some ⟨x.gl, 0, none⟩) x.b.ls.length x.cl, .slice (some ⟨x.gt, 0, none⟩) x.b.ts.length x.ct, .int .i64 x.b.lot] 36)).alloc (.cells #[] 3)) from ((Below.refl _ _).alloc (Nat.le_refl _) _).alloc (by simp) _)
  have s0 : ((w.alloc (.cells #[.slice (some ⟨x.ga, 0, none⟩) x.b.ac.length x.ca, .slice (some ⟨x.gi, 0, none⟩) x.b.ic.length x.ci, .slice (some ⟨x.gb, 0, none⟩) x.b.bs.length x.cb, .slice (some ⟨x.gl, 0, none⟩) x.b.ls.length x.cl, .slice (some ⟨x.gt, 0, none⟩) x.b.ts.length x.ct, .int .i64 x.b.lot] 36)).alloc (.cells #[] 3)).heap.size = w.heap.size + 1 + 1 := by simp
  clear h
  go_enter Tryz.func59, Tryz.ntmps59
  go_wp2
  generalize (w.alloc (.cells #[.slice (some ⟨x.ga, 0, none⟩) x.b.ac.length x.ca, .slice (some ⟨x.gi, 0, none⟩) x.b.ic.length x.ci, .slice (some ⟨x.gb, 0, none⟩) x.b.bs.length x.cb, .slice (some ⟨x.gl, 0, none⟩) x.b.ls.length x.cl, .slice (some ⟨x.gt, 0, none⟩) x.b.ts.length x.ct, .int .i64 x.b.lot] 36)).alloc (.cells #[] 3) = w0 at *
  go_loopw [3, 4] (fun l j wr => ∃ (p : List Int) (g1 c1 k : Nat), l = .slice (some ⟨g1, 0, none⟩) p.length c1 ∧ j = .int .i64 k ∧ k ≤ x.b.ac.length ∧ p.length ≤ k ∧ Hid (p = shortL (x.b.ac.take k)) ∧ Hid (Ints.Own wr (w.heap.size + 1) g1 p.length c1 p) ∧ Hid (Below (w.heap.size + 1) w0 wr)) (fun _ j _ => x.b.ac.length - (intOf j).toNat)
  case atStart => exact ⟨[], w.heap.size + 1, 0, 0, rfl, rfl, by omega, by simp, hide rfl, O0, hide (Below.refl _ _)⟩
  case round =>
    clear O0
    obtain ⟨p, g1, c1, k, rfl, rfl, hk, pl, HP, H1, HB⟩ := hrel
    have bs := (unhide HB).size
    obtain ⟨c0, _, _, _, _, _⟩ := (unhide C0).below (unhide HB) (by omega)
    by_cases t : k < x.b.ac.length
    · obtain ⟨e0, e1⟩ := (unhide R0).ra.below (unhide HB) (by omega) k t
      have NP := hide (short_next (ps := x.b.ac) (k := k) t)
      rw [← unhide HP] at NP
      obtain ⟨no, hno⟩ : ∃ no, Hid ((x.b.ac.getD k (0, 0)).1 = no) := ⟨_, rfl⟩
      obtain ⟨kd, hkd⟩ : ∃ kd, Hid ((x.b.ac.getD k (0, 0)).2 = kd) := ⟨_, rfl⟩
      rw [unhide hno] at e0
      rw [unhide hkd] at e1
      have NQ := hide (show shortL (x.b.ac.take (k + 1)) = p ++ (if kd = 1 then [] else [no]) from by
        first | (rw [unhide NP, ← unhide hno, ← unhide hkd]; done) | (rw [unhide NP, ← unhide hno, ← unhide hkd]; rfl))
      clear NP hno hkd
      by_cases own : kd = 1
      · have NP1 : Hid (shortL (x.b.ac.take (k + 1)) = p) := hide (by rw [unhide NQ, if_pos own, List.append_nil])
        clear NQ
        subst own
        go_wp2
        go_roundw
        case rel => exact ⟨p, g1, c1, k + 1, rfl, by go_num, by omega, by omega, hide (unhide NP1).symm, H1, HB⟩
        case measure => simp [intOf]; omega
      · have NP1 : Hid (shortL (x.b.ac.take (k + 1)) = p ++ [no]) := hide (by rw [unhide NQ, if_neg own])
        have ob : (kd != 1) = true := by simpa using own
        clear NQ own
        go_wp2_with (first | (at_builtin; refine wp_appI _ rfl _ _ rfl (w.heap.size + 1) g1 p.length c1 p wr.heap.size no rfl rfl (own_alloc (unhide H1) _) (by simp) (by omega) (by simp; omega) ?_) | go_in)
        intro g5 c5 w5 o5 gr5 loc5
        have O5 := hide o5
        have B5 := hide (((unhide HB).alloc (by omega) (.cells #[.int .i64 no] 3)).grown gr5 (by simp; omega) (fun j hj => by cases hj; exact (unhide H1).lt.1))
        clear o5 gr5 loc5
        go_wp2
        go_roundw
        case rel => exact ⟨p ++ [no], g5, c5, k + 1, by rw [show (p ++ [no]).length = p.length + 1 by simp], by go_num, by omega, by simp; omega, hide (unhide NP1).symm, hide (by rw [show (p ++ [no]).length = p.length + 1 by simp]; exact unhide O5), B5⟩
        case measure => simp [intOf]; omega
    · obtain rfl : k = x.b.ac.length := by omega
      have EP := hide (show p = shortL x.b.ac by rw [unhide HP, List.take_of_length_le (by omega)])
      clear HP
      go_wp2
      go_ret
      rw [← unhide EP]
      exact ⟨g1, c1, rfl, (unhide H1).mono (by omega), (unhide B0).trans ((unhide HB).mono (by omega))⟩
end Go.Proofs.YteccbaohfmhnfaaGreat.Shorts
namespace Go.Proofs.YteccbaohfmhnfaaGreat.SBk
open Go.ChangeShapes Go.WideShapes Go.ChangeAt Go.RowKit BMem Bks ILists BHelp Ans
open Post2 (PostAnswers)
open IBalsFit (one_more)
open ILotsFit (below_of_drew)
open Lots (Says says_of NoOk)
open Bals (T3)
open Tup5 (T5)
/-- Books in a variable, and the answer's variable behind it. -/
structure SV (w W : World) (x : Bx) : Prop where
  x : Box W w.heap.size w.heap.size (.slice (some ⟨x.ga, 0, none⟩) x.b.ac.length x.ca) (.slice (some ⟨x.gi, 0, none⟩) x.b.ic.length x.ci) (.slice (some ⟨x.gb, 0, none⟩) x.b.bs.length x.cb) (.slice (some ⟨x.gl, 0, none⟩) x.b.ls.length x.cl) (.slice (some ⟨x.gt, 0, none⟩) x.b.ts.length x.ct) (.int .i64 x.b.lot)
  v : Box W w.heap.size (w.heap.size + 1) (.slice none 0 0) (.slice none 0 0) (.slice none 0 0) (.slice none 0 0) (.slice none 0 0) (.int .i64 0)
  b : Below w.heap.size w W
theorem SV.start (w : World) (x : Bx) : SV w ((w.alloc (.cells #[.slice (some ⟨x.ga, 0, none⟩) x.b.ac.length x.ca, .slice (some ⟨x.gi, 0, none⟩) x.b.ic.length x.ci, .slice (some ⟨x.gb, 0, none⟩) x.b.bs.length x.cb, .slice (some ⟨x.gl, 0, none⟩) x.b.ls.length x.cl, .slice (some ⟨x.gt, 0, none⟩) x.b.ts.length x.ct, .int .i64 x.b.lot] 36)).alloc (.cells #[.slice none 0 0, .slice none 0 0, .slice none 0 0, .slice none 0 0, .slice none 0 0, .int .i64 0] 36)) x :=
  ⟨World.ownsRow.alloc (Box.made (w := w) (base := w.heap.size) (g := w.heap.size) _ _ _ _ _ _ (Nat.le_refl _) rfl) _, Box.made _ _ _ _ _ _ (by simp) (by simp), ((Below.refl w.heap.size w).alloc (Nat.le_refl _) _).alloc (by simp) _⟩
theorem SV.step {w W W' : World} {x : Bx} (h : SV w W x) (k : Below W.heap.size W W') : SV w W' x := by
  have l := h.v.lt
  exact ⟨h.x.below k (by omega), h.v.below k (by omega), h.b.trans (k.mono h.b.size)⟩
theorem SV.six {w W : World} {x : Bx} (h : SV w W x) : W.cell? ⟨w.heap.size, 0, none⟩ = some (.slice (some ⟨x.ga, 0, none⟩) x.b.ac.length x.ca) ∧ W.cell? ⟨w.heap.size, 1, none⟩ = some (.slice (some ⟨x.gi, 0, none⟩) x.b.ic.length x.ci) ∧ W.cell? ⟨w.heap.size, 2, none⟩ = some (.slice (some ⟨x.gb, 0, none⟩) x.b.bs.length x.cb) ∧ W.cell? ⟨w.heap.size, 3, none⟩ = some (.slice (some ⟨x.gl, 0, none⟩) x.b.ls.length x.cl) ∧ W.cell? ⟨w.heap.size, 4, none⟩ = some (.slice (some ⟨x.gt, 0, none⟩) x.b.ts.length x.ct) ∧ W.cell? ⟨w.heap.size, 5, none⟩ = some (.int .i64 x.b.lot) := ⟨h.x.c0, h.x.c1, h.x.c2, h.x.c3, h.x.c4, h.x.c5⟩
/-- Books with another list of balances, another list of lots. -/
abbrev withB (x : Bx) (g c : Nat) (qs : List T3) : Bx := { x with gb := g, cb := c, b := { x.b with bs := qs } }
abbrev withL (x : Bx) (g c : Nat) (qs : List T5) (lot : Int) : Bx := { x with gl := g, cl := c, b := { x.b with ls := qs, lot := lot } }
theorem ow_withB {w : World} {base g c : Nat} {x : Bx} {qs : List T3} (h : Ow w base x) (o : Triples.Own3 102 w base g qs.length c qs) : Ow w base (withB x g c qs) := ⟨h.oa, h.oi, o, h.ol, h.ot⟩
theorem ow_withL {w : World} {base g c : Nat} {x : Bx} {qs : List T5} {lot : Int} (h : Ow w base x) (o : Tup5.Own5 97 w base g qs.length c qs) : Ow w base (withL x g c qs lot) := ⟨h.oa, h.oi, h.ob, o, h.ot⟩
theorem off_withB {x : Bx} {g c N p : Nat} {qs : List T3} (h : Up x N) (hp : N ≤ p) (hg : p < g) : Off (withB x g c qs) p := by
  unfold Up at h
  unfold Off withB
  simp
  omega
theorem off_withL {x : Bx} {g c N p : Nat} {qs : List T5} {lot : Int} (h : Up x N) (hp : N ≤ p) (hg : p < g) : Off (withL x g c qs lot) p := by
  unfold Up at h
  unfold Off withL
  simp
  omega
set_option maxRecDepth 100000 in
set_option maxHeartbeats 4000000 in
theorem sPost (w : World) (base : Nat) (x : Bx) (gL capL : Nat) (ls : List T3) (O : Ow w base x) (LI : Lists x.b) (s : Small x.b) (hl : ls.length ≤ 1048576) (hgL : gL < w.heap.size) (hL : Triples.At3 w gL ls) (hf : Bals.Formed ls) (he : Bals.Even ls) :
    Calls Tryz.prog 22 #[.agg #[.slice (some ⟨x.ga, 0, none⟩) x.b.ac.length x.ca, .slice (some ⟨x.gi, 0, none⟩) x.b.ic.length x.ci, .slice (some ⟨x.gb, 0, none⟩) x.b.bs.length x.cb, .slice (some ⟨x.gl, 0, none⟩) x.b.ls.length x.cl, .slice (some ⟨x.gt, 0, none⟩) x.b.ts.length x.ct, .int .i64 x.b.lot], .slice (some ⟨gL, 0, none⟩) ls.length capL] w fun e w' => ∃ (y : Bx) (c : Int), IsPosted x.b ls y.b c ∧ e = .returned (.tuple #[.agg #[.slice (some ⟨y.ga, 0, none⟩) y.b.ac.length y.ca, .slice (some ⟨y.gi, 0, none⟩) y.b.ic.length y.ci, .slice (some ⟨y.gb, 0, none⟩) y.b.bs.length y.cb, .slice (some ⟨y.gl, 0, none⟩) y.b.ls.length y.cl, .slice (some ⟨y.gt, 0, none⟩) y.b.ts.length y.ct, .int .i64 y.b.lot], .int .i64 c]) ∧ Ow w' base y ∧ Below w.heap.size w w' := by
  have R0 := hide (O.rd s)
  have O0 := hide O
  have U0 := hide (ow_up O)
  have L0 := hide hL
  have S1 := hide (SV.start w x)
  have PC := hide (fun qs c (hp : Bals.IsPost x.b.bs ls (shortL x.b.ac) qs c) => post_code hp LI.2.2.1 hf he (Nat.le_trans (short_len _) LI.1.1))
  have xl : (shortL x.b.ac).length ≤ 1048576 := Nat.le_trans (short_len _) s.1
  have nb := s.2.2.1
  have hb := O.oa.lt
  clear O hL hf he LI s
  go_enter Tryz.func22, Tryz.ntmps22
  go_wp2_with fail
  generalize ((w.alloc (.cells #[.slice (some ⟨x.ga, 0, none⟩) x.b.ac.length x.ca, .slice (some ⟨x.gi, 0, none⟩) x.b.ic.length x.ci, .slice (some ⟨x.gb, 0, none⟩) x.b.bs.length x.cb, .slice (some ⟨x.gl, 0, none⟩) x.b.ls.length x.cl, .slice (some ⟨x.gt, 0, none⟩) x.b.ts.length x.ct, .int .i64 x.b.lot] 36)).alloc (.cells #[.slice none 0 0, .slice none 0 0, .slice none 0 0, .slice none 0 0, .slice none 0 0, .int .i64 0] 36)) = w1 at *
  have K4 := (unhide S1).six
  go_region_held3 (fun w' => w'.cell? ⟨w.heap.size, 0, none⟩ = some (.slice (some ⟨x.ga, 0, none⟩) x.b.ac.length x.ca) ∧ w'.cell? ⟨w.heap.size, 1, none⟩ = some (.slice (some ⟨x.gi, 0, none⟩) x.b.ic.length x.ci) ∧ w'.cell? ⟨w.heap.size, 2, none⟩ = some (.slice (some ⟨x.gb, 0, none⟩) x.b.bs.length x.cb) ∧ w'.cell? ⟨w.heap.size, 3, none⟩ = some (.slice (some ⟨x.gl, 0, none⟩) x.b.ls.length x.cl) ∧ w'.cell? ⟨w.heap.size, 4, none⟩ = some (.slice (some ⟨x.gt, 0, none⟩) x.b.ts.length x.ct) ∧ w'.cell? ⟨w.heap.size, 5, none⟩ = some (.int .i64 x.b.lot)) (first | exact K4 | exact K5 | exact K6)
    (first | (go_at_call 59; refine (Shorts.sShort w1.drew x ((unhide R0).below (unhide S1).b.drew)).mono ?_; rintro e w2 ⟨gS, cS, rfl, oS, bb⟩; have bW : Below w1.heap.size w1 w2 := below_of_drew bb; have S2 := hide ((unhide S1).step bW); have K5 := (unhide S2).six; have OS := hide oS; clear oS bb bW) | (go_at_call 58; refine (SPost.sBalsPost w2 x.gb _ x.cb gL _ capL gS _ cS x.b.bs ls (shortL x.b.ac) rfl rfl rfl nb hl xl ((unhide R0).below (unhide S2).b).lb (Nat.lt_of_lt_of_le hgL (unhide S2).b.size) (unhide OS).lt.2 ((unhide R0).below (unhide S2).b).rb ((unhide L0).below (unhide S2).b hgL) (unhide OS).at).mono ?_; rintro e w3 ⟨qs, pc, g5, k5, hp, rfl, o5, bb6⟩; have S3 := hide ((unhide S2).step bb6); have K6 := (unhide S3).six; have HP := hide hp; have O5 := hide o5; have z2 := (unhide S2).v.lt.2; clear hp o5 bb6))
  clear K4 K5 K6
  have OX := hide ((unhide O0).below (unhide S3).b (Nat.le_refl _))
  have g5l := (unhide O5).lt.1
  have c0 := (unhide S3).x.c0
  have c1 := (unhide S3).x.c1
  have c2 := (unhide S3).x.c2
  have c3 := (unhide S3).x.c3
  have c4 := (unhide S3).x.c4
  have c5 := (unhide S3).x.c5
  have r0 := (unhide S3).v.c0
  have r1 := (unhide S3).v.c1
  have r2 := (unhide S3).v.c2
  have r3 := (unhide S3).v.c3
  have r4 := (unhide S3).v.c4
  have r5 := (unhide S3).v.c5
  have f0 := (unhide S3).v.free 0
  have f1 := (unhide S3).v.free 1
  have f2 := (unhide S3).v.free 2
  have f3 := (unhide S3).v.free 3
  have f4 := (unhide S3).v.free 4
  have f5 := (unhide S3).v.free 5
  have x2 := (unhide S3).x.free 2
  have BW := hide (unhide S3).b
  rcases (unhide PC) _ _ (unhide HP) with rfl | rfl | rfl | rfl
  · have IS := hide (show IsPosted x.b ls (withB x g5 k5 qs).b 0 from ⟨qs, 0, unhide HP, .inl ⟨rfl, rfl, rfl⟩⟩)
    have OY := hide (ow_withB (unhide OX) ((unhide O5).rebase (base' := base) (by have := (unhide OX).oa.lt; omega)))
    have F1 := hide (off_withB (c := k5) (qs := qs) (unhide U0) (Nat.le_refl w.heap.size) (show w.heap.size < g5 by omega))
    have F2 := hide (off_withB (c := k5) (qs := qs) (unhide U0) (Nat.le_add_right w.heap.size 1) (show w.heap.size + 1 < g5 by omega))
    go_wp2
    refine bodyPost_ret (v := .tuple #[.agg #[.slice (some ⟨x.ga, 0, none⟩) x.b.ac.length x.ca, .slice (some ⟨x.gi, 0, none⟩) x.b.ic.length x.ci, .slice (some ⟨g5, 0, none⟩) qs.length k5, .slice (some ⟨x.gl, 0, none⟩) x.b.ls.length x.cl, .slice (some ⟨x.gt, 0, none⟩) x.b.ts.length x.ct, .int .i64 x.b.lot], .int .i64 0]) (by simp [results, Tryz.results22, go_sem, r0, r1, r2, r3, r4, r5]) rfl ⟨withB x g5 k5 qs, 0, unhide IS, rfl, ?_, ?_⟩
    · exact ow_six (ow_set (unhide OY) (unhide F1) 2 _) (unhide F2) _ _ _ _ _ _
    · exact Ans.six ((unhide BW).setCell (p := ⟨w.heap.size, 2, none⟩) (Nat.le_refl _) _) (by omega) _ _ _ _ _ _
  · have IS := hide (show IsPosted x.b ls x.b 5 from ⟨qs, 3, unhide HP, .inr (.inl ⟨rfl, rfl, rfl⟩)⟩)
    go_wp2
    refine bodyPost_ret (v := .tuple #[.agg #[.slice (some ⟨x.ga, 0, none⟩) x.b.ac.length x.ca, .slice (some ⟨x.gi, 0, none⟩) x.b.ic.length x.ci, .slice (some ⟨x.gb, 0, none⟩) x.b.bs.length x.cb, .slice (some ⟨x.gl, 0, none⟩) x.b.ls.length x.cl, .slice (some ⟨x.gt, 0, none⟩) x.b.ts.length x.ct, .int .i64 x.b.lot], .int .i64 5]) (by simp [results, Tryz.results22, go_sem, r0, r1, r2, r3, r4, r5]) rfl ⟨x, 5, unhide IS, rfl, ?_, ?_⟩
    · exact ow_six (unhide OX) (off_up (unhide U0) (by omega)) _ _ _ _ _ _
    · exact Ans.six (unhide BW) (by omega) _ _ _ _ _ _
  · have IS := hide (show IsPosted x.b ls x.b 8 from ⟨qs, 4, unhide HP, .inr (.inr (.inl ⟨rfl, rfl, rfl⟩))⟩)
    go_wp2
    refine bodyPost_ret (v := .tuple #[.agg #[.slice (some ⟨x.ga, 0, none⟩) x.b.ac.length x.ca, .slice (some ⟨x.gi, 0, none⟩) x.b.ic.length x.ci, .slice (some ⟨x.gb, 0, none⟩) x.b.bs.length x.cb, .slice (some ⟨x.gl, 0, none⟩) x.b.ls.length x.cl, .slice (some ⟨x.gt, 0, none⟩) x.b.ts.length x.ct, .int .i64 x.b.lot], .int .i64 8]) (by simp [results, Tryz.results22, go_sem, r0, r1, r2, r3, r4, r5]) rfl ⟨x, 8, unhide IS, rfl, ?_, ?_⟩
    · exact ow_six (unhide OX) (off_up (unhide U0) (by omega)) _ _ _ _ _ _
    · exact Ans.six (unhide BW) (by omega) _ _ _ _ _ _
  · have IS := hide (show IsPosted x.b ls x.b 7 from ⟨qs, 5, unhide HP, .inr (.inr (.inr ⟨rfl, rfl, rfl⟩))⟩)
    go_wp2
    refine bodyPost_ret (v := .tuple #[.agg #[.slice (some ⟨x.ga, 0, none⟩) x.b.ac.length x.ca, .slice (some ⟨x.gi, 0, none⟩) x.b.ic.length x.ci, .slice (some ⟨x.gb, 0, none⟩) x.b.bs.length x.cb, .slice (some ⟨x.gl, 0, none⟩) x.b.ls.length x.cl, .slice (some ⟨x.gt, 0, none⟩) x.b.ts.length x.ct, .int .i64 x.b.lot], .int .i64 7]) (by simp [results, Tryz.results22, go_sem, r0, r1, r2, r3, r4, r5]) rfl ⟨x, 7, unhide IS, rfl, ?_, ?_⟩
    · exact ow_six (unhide OX) (off_up (unhide U0) (by omega)) _ _ _ _ _ _
    · exact Ans.six (unhide BW) (by omega) _ _ _ _ _ _
theorem open_cases (ok okl okn : Bool) : (ok = true ∧ okl = true ∧ okn = true) ∨ (SOpen.openC ok okl okn ≠ 0 ∧ ¬ (ok = true ∧ okl = true ∧ okn = true)) := by
  cases ok <;> cases okl <;> cases okn <;> simp [SOpen.openC]
set_option maxRecDepth 100000 in
set_option maxHeartbeats 4000000 in
theorem sOpenB (w : World) (base : Nat) (x : Bx) (a i q cost : Int) (O : Ow w base x) (hlot : 0 ≤ x.b.lot ∧ x.b.lot ≤ 1000000000) (s : Small x.b) :
    Calls Tryz.prog 24 #[.agg #[.slice (some ⟨x.ga, 0, none⟩) x.b.ac.length x.ca, .slice (some ⟨x.gi, 0, none⟩) x.b.ic.length x.ci, .slice (some ⟨x.gb, 0, none⟩) x.b.bs.length x.cb, .slice (some ⟨x.gl, 0, none⟩) x.b.ls.length x.cl, .slice (some ⟨x.gt, 0, none⟩) x.b.ts.length x.ct, .int .i64 x.b.lot], .int .i64 a, .int .i64 i, .int .i64 q, .int .i64 cost] w fun e w' => ∃ (y : Bx) (c : Int), IsOpen x.b a i q cost y.b c ∧ e = .returned (.tuple #[.agg #[.slice (some ⟨y.ga, 0, none⟩) y.b.ac.length y.ca, .slice (some ⟨y.gi, 0, none⟩) y.b.ic.length y.ci, .slice (some ⟨y.gb, 0, none⟩) y.b.bs.length y.cb, .slice (some ⟨y.gl, 0, none⟩) y.b.ls.length y.cl, .slice (some ⟨y.gt, 0, none⟩) y.b.ts.length y.ct, .int .i64 y.b.lot], .int .i64 c]) ∧ Ow w' base y ∧ Below w.heap.size w w' := by
  have R0 := hide (O.rd s)
  have O0 := hide O
  have U0 := hide (ow_up O)
  have S1 := hide (SV.start w x)
  have nl := s.2.2.2.1
  obtain ⟨l0, l1⟩ := hlot
  clear O s
  by_cases full : x.b.lot = 1000000000
  · have IS := hide (show IsOpen x.b a i q cost x.b 7 from .inr ⟨fun h => h.1 full, rfl, rfl⟩)
    have fb : (x.b.lot == 1000000000) = true := by simp [full]
    have OX := hide ((unhide O0).below (unhide S1).b (Nat.le_refl _))
    have BW := hide (unhide S1).b
    clear full
    go_enter Tryz.func24, Tryz.ntmps24
    go_wp2
    refine bodyPost_ret (v := .tuple #[.agg #[.slice (some ⟨x.ga, 0, none⟩) x.b.ac.length x.ca, .slice (some ⟨x.gi, 0, none⟩) x.b.ic.length x.ci, .slice (some ⟨x.gb, 0, none⟩) x.b.bs.length x.cb, .slice (some ⟨x.gl, 0, none⟩) x.b.ls.length x.cl, .slice (some ⟨x.gt, 0, none⟩) x.b.ts.length x.ct, .int .i64 x.b.lot], .int .i64 7]) (by simp [results, Tryz.results24, go_sem]) rfl ⟨x, 7, unhide IS, rfl, ?_, ?_⟩
    · exact (unhide O0).below (((Below.refl w.heap.size w).alloc (Nat.le_refl _) _).alloc (by simp) _) (Nat.le_refl _)
    · exact ((Below.refl w.heap.size w).alloc (Nat.le_refl _) _).alloc (by simp) _
  have fb : (x.b.lot == 1000000000) = false := by simpa using full
  have HF := hide full
  obtain ⟨ok, hok⟩ := says_of (Lots.Right x.b.ls)
  obtain ⟨okl, hkl⟩ := says_of (Lots.One (opened x.b a i q cost))
  obtain ⟨okn, hkn⟩ := says_of (Lots.Right (Lots.mergeL (x.b.ls.length + 1) x.b.ls [opened x.b a i q cost]))
  have HO := hide hok
  have HL := hide hkl
  have HN := hide hkn
  clear full hok hkl hkn
  go_enter Tryz.func24, Tryz.ntmps24
  go_wp2_with fail
  generalize ((w.alloc (.cells #[.slice (some ⟨x.ga, 0, none⟩) x.b.ac.length x.ca, .slice (some ⟨x.gi, 0, none⟩) x.b.ic.length x.ci, .slice (some ⟨x.gb, 0, none⟩) x.b.bs.length x.cb, .slice (some ⟨x.gl, 0, none⟩) x.b.ls.length x.cl, .slice (some ⟨x.gt, 0, none⟩) x.b.ts.length x.ct, .int .i64 x.b.lot] 36)).alloc (.cells #[.slice none 0 0, .slice none 0 0, .slice none 0 0, .slice none 0 0, .slice none 0 0, .int .i64 0] 36)) = w1 at *
  refine (SOpen.sOpen w1 x.gl _ x.cl x.b.ls _ a i (x.b.lot + 1) q cost ok okl okn (hide rfl) rfl nl ((unhide R0).below (unhide S1).b).ll ((unhide R0).below (unhide S1).b).rl (unhide HO) (unhide HL) (unhide HN)).mono ?_
  rintro e w2 ⟨g2, k2, rfl, o2, bb⟩
  have S2 := hide ((unhide S1).step bb)
  have OX := hide ((unhide O0).below (unhide S2).b (Nat.le_refl _))
  have BW := hide (unhide S2).b
  have O2 := hide o2
  have g2l := o2.lt.1
  have z1 := (unhide S1).v.lt.2
  have zb := (unhide O0).oa.lt
  clear o2 bb
  have c0 := (unhide S2).x.c0
  have c1 := (unhide S2).x.c1
  have c2 := (unhide S2).x.c2
  have c3 := (unhide S2).x.c3
  have c4 := (unhide S2).x.c4
  have c5 := (unhide S2).x.c5
  have r0 := (unhide S2).v.c0
  have r1 := (unhide S2).v.c1
  have r2 := (unhide S2).v.c2
  have r3 := (unhide S2).v.c3
  have r4 := (unhide S2).v.c4
  have r5 := (unhide S2).v.c5
  have f0 := (unhide S2).v.free 0
  have f1 := (unhide S2).v.free 1
  have f2 := (unhide S2).v.free 2
  have f3 := (unhide S2).v.free 3
  have f4 := (unhide S2).v.free 4
  have f5 := (unhide S2).v.free 5
  have x3 := (unhide S2).x.free 3
  have x5 := (unhide S2).x.free 5
  rcases open_cases ok okl okn with ⟨rfl, rfl, rfl⟩ | ⟨hne, hno⟩
  · obtain ⟨R, hR⟩ : ∃ R, Hid (Lots.mergeL (x.b.ls.length + 1) x.b.ls [opened x.b a i q cost] = R) := ⟨_, rfl⟩
    have O2 := hide (show Tup5.Own5 97 w2 w1.heap.size g2 R.length k2 R from by rw [← unhide hR]; exact unhide O2)
    have IS := hide (show IsOpen x.b a i q cost (withL x g2 k2 R (x.b.lot + 1)).b 0 from .inl ⟨⟨unhide HF, (unhide HO).yes, (unhide HL).yes, (unhide HN).yes⟩, by rw [← unhide hR], rfl⟩)
    have OY := hide (ow_withL (lot := x.b.lot + 1) (unhide OX) ((unhide O2).rebase (base' := base) (by omega)))
    have F1 := hide (off_withL (c := k2) (qs := R) (lot := x.b.lot + 1) (unhide U0) (Nat.le_refl w.heap.size) (show w.heap.size < g2 by omega))
    have F2 := hide (off_withL (c := k2) (qs := R) (lot := x.b.lot + 1) (unhide U0) (Nat.le_add_right w.heap.size 1) (show w.heap.size + 1 < g2 by omega))
    rw [show (SOpen.openA x.b.ls (Lots.mergeL (x.b.ls.length + 1) x.b.ls [(a, i, x.b.lot + 1, q, cost)]) true true true).length = R.length from by rw [← unhide hR]; rfl, show SOpen.openC true true true = 0 from rfl]
    go_wp2
    refine bodyPost_ret (v := .tuple #[.agg #[.slice (some ⟨x.ga, 0, none⟩) x.b.ac.length x.ca, .slice (some ⟨x.gi, 0, none⟩) x.b.ic.length x.ci, .slice (some ⟨x.gb, 0, none⟩) x.b.bs.length x.cb, .slice (some ⟨g2, 0, none⟩) R.length k2, .slice (some ⟨x.gt, 0, none⟩) x.b.ts.length x.ct, .int .i64 (x.b.lot + 1)], .int .i64 0]) (by simp [results, Tryz.results24, go_sem, r0, r1, r2, r3, r4, r5]) rfl ⟨withL x g2 k2 R (x.b.lot + 1), 0, unhide IS, rfl, ?_, ?_⟩
    · exact ow_six (ow_set (ow_set (unhide OY) (unhide F1) 3 _) (unhide F1) 5 _) (unhide F2) _ _ _ _ _ _
    · exact Ans.six (((unhide BW).setCell (p := ⟨w.heap.size, 3, none⟩) (Nat.le_refl _) _).setCell (p := ⟨w.heap.size, 5, none⟩) (Nat.le_refl _) _) (by omega) _ _ _ _ _ _
  · have IS := hide (show IsOpen x.b a i q cost x.b 7 from .inr ⟨fun h => hno ⟨(unhide HO).of h.2.1, (unhide HL).of h.2.2.1, (unhide HN).of h.2.2.2⟩, rfl, rfl⟩)
    obtain ⟨c, hc⟩ : ∃ c, Hid (SOpen.openC ok okl okn = c) := ⟨_, rfl⟩
    have cb : (c != 0) = true := by rw [← unhide hc]; simpa using hne
    rw [unhide hc]
    clear hne hno
    go_wp2
    refine bodyPost_ret (v := .tuple #[.agg #[.slice (some ⟨x.ga, 0, none⟩) x.b.ac.length x.ca, .slice (some ⟨x.gi, 0, none⟩) x.b.ic.length x.ci, .slice (some ⟨x.gb, 0, none⟩) x.b.bs.length x.cb, .slice (some ⟨x.gl, 0, none⟩) x.b.ls.length x.cl, .slice (some ⟨x.gt, 0, none⟩) x.b.ts.length x.ct, .int .i64 x.b.lot], .int .i64 7]) (by simp [results, Tryz.results24, go_sem, r0, r1, r2, r3, r4, r5]) rfl ⟨x, 7, unhide IS, rfl, ?_, ?_⟩
    · exact ow_six (unhide OX) (off_up (unhide U0) (by omega)) _ _ _ _ _ _
    · exact Ans.six (unhide BW) (by omega) _ _ _ _ _ _
end Go.Proofs.YteccbaohfmhnfaaGreat.SBk
namespace Go.Proofs.YteccbaohfmhnfaaGreat.SIssue
open Go.ChangeShapes Go.WideShapes Go.ChangeAt Go.RowKit BMem Bks ILists BHelp Ans SBk
open IBalsFit (one_more)
open Lots (Says says_of NoOk)
open Quieter (Near near_is quiet_near)
open Bals (T3)
open Tup5 (T5)
/-- What is asked of an issue's arguments. -/
def ToldI (b : Bk) (fa fb fi fq fk : Int) : Prop := Ok b ∧ NoOk fa ∧ NoOk fb ∧ NoOk fi ∧ (1 ≤ fq ∧ fq ≤ 1000000000000000) ∧ (0 ≤ fk ∧ fk ≤ 1000000000000000)
theorem posted_small {b b' : Bk} {ls : List T3} {c : Int} (h : IsPosted b ls b' c) (s : Small b) : Small b' := by
  obtain ⟨qs, pc, hp, ⟨_, rfl, _⟩ | ⟨_, rfl, _⟩ | ⟨_, rfl, _⟩ | ⟨_, rfl, _⟩⟩ := h
  · have := hp.len
    obtain ⟨a, b, c, d, e⟩ := s
    exact ⟨a, b, by simp; omega, d, e⟩
  all_goals exact s
theorem posted_lot {b b' : Bk} {ls : List T3} {c : Int} (h : IsPosted b ls b' c) : b'.lot = b.lot ∧ b'.ls = b.ls ∧ b'.ac = b.ac ∧ b'.ic = b.ic := by
  obtain ⟨qs, pc, hp, ⟨_, rfl, _⟩ | ⟨_, rfl, _⟩ | ⟨_, rfl, _⟩ | ⟨_, rfl, _⟩⟩ := h
  all_goals exact ⟨rfl, rfl, rfl, rfl⟩
theorem row_ne {w : World} {base base' : Nat} {e e' : TypeId} {size size' g n cap g' n' cap' : Nat} {xs xs' : List Value} (h : w.ownsRow base e size (.slice (some ⟨g, 0, none⟩) n cap) n xs) (k : w.ownsRow base' e' size' (.slice (some ⟨g', 0, none⟩) n' cap') n' xs') (ne : e ≠ e') : g ≠ g' := by
  rintro rfl
  rcases h.2 with ⟨h1, _⟩ | ⟨g1, c1, cur1, h1, h2, h3, _⟩
  · simp at h1
  rcases k.2 with ⟨k1, _⟩ | ⟨g2, c2, cur2, k1, k2, k3, _⟩
  · simp at k1
  obtain ⟨rfl, _⟩ : g = g1 ∧ cap = c1 := by simpa using h1
  obtain ⟨rfl, _⟩ : g = g2 ∧ cap' = c2 := by simpa using k1
  rw [h3] at k3
  injection k3 with k3
  injection k3 with _ k3
  exact ne k3
/-- A variable of books is none of the blocks in which lists lie. -/
theorem off_box {w : World} {base base' p : Nat} {y : Bx} {v0 v1 v2 v3 v4 v5 : Value} (O : Ow w base y) (B : Box w base' p v0 v1 v2 v3 v4 v5) : Off y p :=
  ⟨row_ne O.oa B (by decide), row_ne O.oi B (by decide), row_ne O.ob B (by decide), row_ne O.ol B (by decide), row_ne O.ot B (by decide)⟩
theorem SR.grown {w W W' : World} {x : Bx} {p : Nat} (H : Rd w x) (h : SR w W x) (k : W.grownBy W' (some p)) (hp : w.heap.size + 1 < p) : SR w W' x := by
  have b : Below w.heap.size w W' := h.b.grown k h.b.size (fun j e => by injection e; omega)
  have n0 : some w.heap.size ≠ some p := fun e => by injection e; omega
  exact ⟨H.below b, ⟨k.cell h.c.c0 n0, k.cell h.c.c1 n0, k.cell h.c.c2 n0, k.cell h.c.c3 n0, k.cell h.c.c4 n0, k.cell h.c.c5 n0⟩, h.v.kept k (fun e => by injection e; omega), b⟩
theorem six_alloc {B : Nat} {a w : World} {g : Nat} (h : Below B a w) (hB : B ≤ w.heap.size) (hg : B ≤ g) (u0 u1 u2 u3 u4 u5 : Value) (o : Obj) : Below B a (((((((w.setCell ⟨g, 0, none⟩ u0).setCell ⟨g, 1, none⟩ u1).setCell ⟨g, 2, none⟩ u2).setCell ⟨g, 3, none⟩ u3).setCell ⟨g, 4, none⟩ u4).setCell ⟨g, 5, none⟩ u5).alloc o) :=
  (six h hg u0 u1 u2 u3 u4 u5).alloc (by simpa using hB) o
theorem ow_six_alloc {w : World} {base base' : Nat} {z : Bx} {g : Nat} (h : Ow w base z) (off : Off z g) (hb : base' ≤ base) (u0 u1 u2 u3 u4 u5 : Value) (o : Obj) : Ow (((((((w.setCell ⟨g, 0, none⟩ u0).setCell ⟨g, 1, none⟩ u1).setCell ⟨g, 2, none⟩ u2).setCell ⟨g, 3, none⟩ u3).setCell ⟨g, 4, none⟩ u4).setCell ⟨g, 5, none⟩ u5).alloc o) base' z :=
  (ow_alloc (ow_six h off u0 u1 u2 u3 u4 u5) o).rebase hb
theorem box_six_alloc {w : World} {base g : Nat} {v0 v1 v2 v3 v4 v5 : Value} (h : Box w base g v0 v1 v2 v3 v4 v5) (u0 u1 u2 u3 u4 u5 : Value) (o : Obj) : Box (((((((w.setCell ⟨g, 0, none⟩ u0).setCell ⟨g, 1, none⟩ u1).setCell ⟨g, 2, none⟩ u2).setCell ⟨g, 3, none⟩ u3).setCell ⟨g, 4, none⟩ u4).setCell ⟨g, 5, none⟩ u5).alloc o) base g u0 u1 u2 u3 u4 u5 := World.ownsRow.alloc (box_six h u0 u1 u2 u3 u4 u5).1 o
theorem to_wb {P : Program} {fn : Func} {R : Ending → World → Prop} {ex : Exit} {a : Act} {W : World} (Pr : World → Prop) (h : Pr W) (k : ∀ W, Pr W → bodyPost P fn R ex a W) : bodyPost P fn R ex a W := k W h
theorem ne_true {a b : Int} (h : a ≠ b) : (a != b) = true := by simpa using h
theorem ne_false {a b : Int} (h : a = b) : (a != b) = false := by simpa using h
theorem eq_true {a b : Int} (h : a = b) : (a == b) = true := by simpa using h
theorem eq_false {a b : Int} (h : ¬ a = b) : (a == b) = false := by simpa using h
set_option maxRecDepth 100000 in
set_option maxHeartbeats 16000000 in
theorem sIssue (w : World) (x : Bx) (fa fb fi fq fk : Int) (hr : Rd w x) :
    Calls Tryz.prog 5 #[.agg #[.slice (some ⟨x.ga, 0, none⟩) x.b.ac.length x.ca, .slice (some ⟨x.gi, 0, none⟩) x.b.ic.length x.ci, .slice (some ⟨x.gb, 0, none⟩) x.b.bs.length x.cb, .slice (some ⟨x.gl, 0, none⟩) x.b.ls.length x.cl, .slice (some ⟨x.gt, 0, none⟩) x.b.ts.length x.ct, .int .i64 x.b.lot], .int .i64 fa, .int .i64 fb, .int .i64 fi, .int .i64 fq, .int .i64 fk] w (AnsB (ToldI x.b fa fb fi fq fk) (IsIssue x.b fa fb fi fq fk) w) := by
  obtain ⟨b0, h0⟩ := says_of (Ok x.b)
  obtain ⟨b1, h1⟩ := says_of (NoOk fa)
  obtain ⟨b2, h2⟩ := says_of (NoOk fb)
  obtain ⟨b3, h3⟩ := says_of (NoOk fi)
  obtain ⟨b4, h4⟩ := says_of (1 ≤ fq ∧ fq ≤ 1000000000000000)
  obtain ⟨b5, h5⟩ := says_of (0 ≤ fk ∧ fk ≤ 1000000000000000)
  have H0 := hide h0
  have H1 := hide h1
  have H2 := hide h2
  have H3 := hide h3
  have H4 := hide h4
  have H5 := hide h5
  have S0 := hide (SR.start hr)
  have HR := hide hr
  clear h0 h1 h2 h3 h4 h5 hr
  go_enter Tryz.func5, Tryz.ntmps5
  go_wp2_with fail
  refine (SBooksOk.sBooksOk _ x b0 (unhide S0).r (unhide H0)).mono ?_
  rintro e w1 ⟨rfl, bb⟩
  have S1 := hide ((unhide S0).step bb)
  have B1 := hide (unhide S1).b
  clear bb
  obtain ⟨c0, c1, c2, c3, c4, c5⟩ := (unhide S1).c
  have r0 := (unhide S1).v.c0
  have r1 := (unhide S1).v.c1
  have r2 := (unhide S1).v.c2
  have r3 := (unhide S1).v.c3
  have r4 := (unhide S1).v.c4
  have r5 := (unhide S1).v.c5
  have f0 := (unhide S1).v.free 0
  have f1 := (unhide S1).v.free 1
  have f2 := (unhide S1).v.free 2
  have f3 := (unhide S1).v.free 3
  have f4 := (unhide S1).v.free 4
  have f5 := (unhide S1).v.free 5
  cases b0
  · have N := hide (show ¬ ToldI x.b fa fb fi fq fk from fun hh => (unhide H0).no hh.1)
    go_wp2
    refine bodyPost_ret (v := .tuple #[.agg #[.slice none 0 0, .slice none 0 0, .slice none 0 0, .slice none 0 0, .slice none 0 0, .int .i64 0], .int .i64 1]) (by simp [results, Tryz.results5, go_sem, r0, r1, r2, r3, r4, r5]) rfl (.inl ⟨unhide N, rfl, ?_⟩)
    exact six (unhide B1) (by omega) _ _ _ _ _ _
  go_wp2_with fail
  refine (SOk5.sNo fa b1 _ (unhide H1)).mono ?_
  rintro e v1 ⟨rfl, rfl⟩
  cases b1
  · have N := hide (show ¬ ToldI x.b fa fb fi fq fk from fun hh => (unhide H1).no hh.2.1)
    go_wp2
    refine bodyPost_ret (v := .tuple #[.agg #[.slice none 0 0, .slice none 0 0, .slice none 0 0, .slice none 0 0, .slice none 0 0, .int .i64 0], .int .i64 1]) (by simp [results, Tryz.results5, go_sem, r0, r1, r2, r3, r4, r5]) rfl (.inl ⟨unhide N, rfl, ?_⟩)
    exact six (unhide B1) (by omega) _ _ _ _ _ _
  go_wp2_with fail
  refine (SOk5.sNo fb b2 _ (unhide H2)).mono ?_
  rintro e v2 ⟨rfl, rfl⟩
  cases b2
  · have N := hide (show ¬ ToldI x.b fa fb fi fq fk from fun hh => (unhide H2).no hh.2.2.1)
    go_wp2
    refine bodyPost_ret (v := .tuple #[.agg #[.slice none 0 0, .slice none 0 0, .slice none 0 0, .slice none 0 0, .slice none 0 0, .int .i64 0], .int .i64 1]) (by simp [results, Tryz.results5, go_sem, r0, r1, r2, r3, r4, r5]) rfl (.inl ⟨unhide N, rfl, ?_⟩)
    exact six (unhide B1) (by omega) _ _ _ _ _ _
  go_wp2_with fail
  refine (SOk5.sNo fi b3 _ (unhide H3)).mono ?_
  rintro e v3 ⟨rfl, rfl⟩
  cases b3
  · have N := hide (show ¬ ToldI x.b fa fb fi fq fk from fun hh => (unhide H3).no hh.2.2.2.1)
    go_wp2
    refine bodyPost_ret (v := .tuple #[.agg #[.slice none 0 0, .slice none 0 0, .slice none 0 0, .slice none 0 0, .slice none 0 0, .int .i64 0], .int .i64 1]) (by simp [results, Tryz.results5, go_sem, r0, r1, r2, r3, r4, r5]) rfl (.inl ⟨unhide N, rfl, ?_⟩)
    exact six (unhide B1) (by omega) _ _ _ _ _ _
  go_wp2_with fail
  refine (SOk5.sSome fq 1 b4 _ (unhide H4)).mono ?_
  rintro e v4 ⟨rfl, rfl⟩
  cases b4
  · have N := hide (show ¬ ToldI x.b fa fb fi fq fk from fun hh => (unhide H4).no hh.2.2.2.2.1)
    go_wp2
    refine bodyPost_ret (v := .tuple #[.agg #[.slice none 0 0, .slice none 0 0, .slice none 0 0, .slice none 0 0, .slice none 0 0, .int .i64 0], .int .i64 1]) (by simp [results, Tryz.results5, go_sem, r0, r1, r2, r3, r4, r5]) rfl (.inl ⟨unhide N, rfl, ?_⟩)
    exact six (unhide B1) (by omega) _ _ _ _ _ _
  go_wp2_with fail
  refine (SOk5.sSome fk 0 b5 _ (unhide H5)).mono ?_
  rintro e v5 ⟨rfl, rfl⟩
  cases b5
  · have N := hide (show ¬ ToldI x.b fa fb fi fq fk from fun hh => (unhide H5).no hh.2.2.2.2.2)
    go_wp2
    refine bodyPost_ret (v := .tuple #[.agg #[.slice none 0 0, .slice none 0 0, .slice none 0 0, .slice none 0 0, .slice none 0 0, .int .i64 0], .int .i64 1]) (by simp [results, Tryz.results5, go_sem, r0, r1, r2, r3, r4, r5]) rfl (.inl ⟨unhide N, rfl, ?_⟩)
    exact six (unhide B1) (by omega) _ _ _ _ _ _
  have TT := hide (show ToldI x.b fa fb fi fq fk from ⟨(unhide H0).yes, (unhide H1).yes, (unhide H2).yes, (unhide H3).yes, (unhide H4).yes, (unhide H5).yes⟩)
  have LI := hide (unhide H0).yes.1
  have SM := hide (ok_small (unhide H0).yes)
  obtain ⟨K1, hK1⟩ : ∃ K, Hid (kindOf x.b.ac fa = K) := ⟨_, rfl⟩
  obtain ⟨K2, hK2⟩ : ∃ K, Hid (kindOf x.b.ac fb = K) := ⟨_, rfl⟩
  obtain ⟨K3, hK3⟩ : ∃ K, Hid (kindOf x.b.ic fi = K) := ⟨_, rfl⟩
  have K4 := And.intro c0 c1
  have M1 := trivial
  clear c0 c1 c2 c3 c4 c5 r0 r1 r2 r3 r4 r5 f0 f1 f2 f3 f4 f5
  clear H0 H1 H2 H3 H4 H5 S0
  go_wp2_with fail
  go_region_held3 (fun w' => w'.cell? ⟨w.heap.size, 0, none⟩ = some (.slice (some ⟨x.ga, 0, none⟩) x.b.ac.length x.ca) ∧ w'.cell? ⟨w.heap.size, 1, none⟩ = some (.slice (some ⟨x.gi, 0, none⟩) x.b.ic.length x.ci)) (first | exact K4 | exact K5 | exact K6 | exact K7)
    (first | (go_at_call 19; clear M1; refine (SBals.sKindA v5.drew x fa K1 ((unhide S1).r.below (Below.refl _ _).drew) (unhide LI).1 (unhide hK1)).mono ?_; rintro e u1 ⟨rfl, bb⟩; have bW : Below v5.heap.size v5 u1 := ILotsFit.below_of_drew bb; have T1 := hide ((unhide S1).step bW); have K5 := And.intro (unhide T1).c.c0 (unhide T1).c.c1; clear bb bW) | (go_at_call 19; refine (SBals.sKindA u1 x fb K2 (unhide T1).r (unhide LI).1 (unhide hK2)).mono ?_; rintro e u2 ⟨rfl, bb2⟩; have T2 := hide ((unhide T1).step bb2); have K6 := And.intro (unhide T2).c.c0 (unhide T2).c.c1; clear bb2) | (go_at_call 20; refine (SBals.sKindI u2 x fi K3 (unhide T2).r (unhide LI).2.1 (unhide hK3)).mono ?_; rintro e w2 ⟨rfl, bb3⟩; have S2 := hide ((unhide T2).step bb3); have K7 := And.intro (unhide S2).c.c0 (unhide S2).c.c1; clear bb3))
  clear K4 K5 K6 K7 T1 T2
  obtain ⟨c0, c1, c2, c3, c4, c5⟩ := (unhide S2).c
  have r0 := (unhide S2).v.c0
  have r1 := (unhide S2).v.c1
  have r2 := (unhide S2).v.c2
  have r3 := (unhide S2).v.c3
  have r4 := (unhide S2).v.c4
  have r5 := (unhide S2).v.c5
  have f0 := (unhide S2).v.free 0
  have f1 := (unhide S2).v.free 1
  have f2 := (unhide S2).v.free 2
  have f3 := (unhide S2).v.free 3
  have f4 := (unhide S2).v.free 4
  have f5 := (unhide S2).v.free 5
  have KIN := hide (kind_in (unhide LI).2.1 fi)
  have zero : ((K1 == 0) = true ∨ ((K1 == 0) = false ∧ (K2 == 0) = true) ∨ ((K1 == 0) = false ∧ (K2 == 0) = false ∧ (K3 == 0) = true)) ∧ Hid (kindOf x.b.ac fa = 0 ∨ kindOf x.b.ac fb = 0 ∨ kindOf x.b.ic fi = 0) ∨ ((K1 == 0) = false ∧ (K2 == 0) = false ∧ (K3 == 0) = false) ∧ Hid (¬ (kindOf x.b.ac fa = 0 ∨ kindOf x.b.ac fb = 0 ∨ kindOf x.b.ic fi = 0)) := by
    rw [unhide hK1, unhide hK2, unhide hK3]
    by_cases k1 : K1 = 0
    · exact .inl ⟨.inl (eq_true k1), .inl k1⟩
    by_cases k2 : K2 = 0
    · exact .inl ⟨.inr (.inl ⟨eq_false k1, eq_true k2⟩), .inr (.inl k2)⟩
    by_cases k3 : K3 = 0
    · exact .inl ⟨.inr (.inr ⟨eq_false k1, eq_false k2, eq_true k3⟩), .inr (.inr k3)⟩
    · exact .inr ⟨⟨eq_false k1, eq_false k2, eq_false k3⟩, fun hh => by omega⟩
  obtain ⟨Z, ZZ⟩ | ⟨⟨n1, n2, n3⟩, NZ⟩ := zero
  · have I3 := hide (show IsIssue x.b fa fb fi fq fk x.b 3 from .inl ⟨unhide ZZ, rfl, rfl⟩)
    clear hK1 hK2 hK3 KIN ZZ
    obtain n1 | ⟨n1, n2⟩ | ⟨n1, n2, n3⟩ := Z
    · have skip := trivial
      go_wp2_with fail
      refine (SCopy.sCopy _ x (unhide S2).r).mono ?_
      rintro e w8 ⟨z, hz, rfl, oz, bb⟩
      have S8 := hide ((unhide S2).step bb)
      have OZ := hide (oz.rebase (unhide S2).b.size)
      have LZ := hide (ow_lo oz)
      have zl := (unhide S2).v.lt.2
      have IZ := hide (show IsIssue x.b fa fb fi fq fk z.b 3 from by rw [hz]; exact (unhide I3))
      clear bb oz hz
      clear c0 c1 c2 c3 c4 c5 r0 r1 r2 r3 r4 r5 f0 f1 f2 f3 f4 f5
      obtain ⟨c0, c1, c2, c3, c4, c5⟩ := (unhide S8).c
      have r0 := (unhide S8).v.c0
      have r1 := (unhide S8).v.c1
      have r2 := (unhide S8).v.c2
      have r3 := (unhide S8).v.c3
      have r4 := (unhide S8).v.c4
      have r5 := (unhide S8).v.c5
      have f0 := (unhide S8).v.free 0
      have f1 := (unhide S8).v.free 1
      have f2 := (unhide S8).v.free 2
      have f3 := (unhide S8).v.free 3
      have f4 := (unhide S8).v.free 4
      have f5 := (unhide S8).v.free 5
      go_wp2
      refine bodyPost_ret (v := .tuple #[.agg #[.slice (some ⟨z.ga, 0, none⟩) z.b.ac.length z.ca, .slice (some ⟨z.gi, 0, none⟩) z.b.ic.length z.ci, .slice (some ⟨z.gb, 0, none⟩) z.b.bs.length z.cb, .slice (some ⟨z.gl, 0, none⟩) z.b.ls.length z.cl, .slice (some ⟨z.gt, 0, none⟩) z.b.ts.length z.ct, .int .i64 z.b.lot], .int .i64 3]) (by simp [results, Tryz.results5, go_sem, r0, r1, r2, r3, r4, r5]) rfl (.inr ⟨unhide TT, z, 3, unhide IZ, rfl, ?_, ?_⟩)
      · exact ow_six (unhide OZ) (off_lo (unhide LZ) zl) _ _ _ _ _ _
      · exact six (unhide S8).b (by omega) _ _ _ _ _ _
    · have skip := trivial
      go_wp2_with fail
      refine (SCopy.sCopy _ x (unhide S2).r).mono ?_
      rintro e w8 ⟨z, hz, rfl, oz, bb⟩
      have S8 := hide ((unhide S2).step bb)
      have OZ := hide (oz.rebase (unhide S2).b.size)
      have LZ := hide (ow_lo oz)
      have zl := (unhide S2).v.lt.2
      have IZ := hide (show IsIssue x.b fa fb fi fq fk z.b 3 from by rw [hz]; exact (unhide I3))
      clear bb oz hz
      clear c0 c1 c2 c3 c4 c5 r0 r1 r2 r3 r4 r5 f0 f1 f2 f3 f4 f5
      obtain ⟨c0, c1, c2, c3, c4, c5⟩ := (unhide S8).c
      have r0 := (unhide S8).v.c0
      have r1 := (unhide S8).v.c1
      have r2 := (unhide S8).v.c2
      have r3 := (unhide S8).v.c3
      have r4 := (unhide S8).v.c4
      have r5 := (unhide S8).v.c5
      have f0 := (unhide S8).v.free 0
      have f1 := (unhide S8).v.free 1
      have f2 := (unhide S8).v.free 2
      have f3 := (unhide S8).v.free 3
      have f4 := (unhide S8).v.free 4
      have f5 := (unhide S8).v.free 5
      go_wp2
      refine bodyPost_ret (v := .tuple #[.agg #[.slice (some ⟨z.ga, 0, none⟩) z.b.ac.length z.ca, .slice (some ⟨z.gi, 0, none⟩) z.b.ic.length z.ci, .slice (some ⟨z.gb, 0, none⟩) z.b.bs.length z.cb, .slice (some ⟨z.gl, 0, none⟩) z.b.ls.length z.cl, .slice (some ⟨z.gt, 0, none⟩) z.b.ts.length z.ct, .int .i64 z.b.lot], .int .i64 3]) (by simp [results, Tryz.results5, go_sem, r0, r1, r2, r3, r4, r5]) rfl (.inr ⟨unhide TT, z, 3, unhide IZ, rfl, ?_, ?_⟩)
      · exact ow_six (unhide OZ) (off_lo (unhide LZ) zl) _ _ _ _ _ _
      · exact six (unhide S8).b (by omega) _ _ _ _ _ _
    · have skip := trivial
      go_wp2_with fail
      refine (SCopy.sCopy _ x (unhide S2).r).mono ?_
      rintro e w8 ⟨z, hz, rfl, oz, bb⟩
      have S8 := hide ((unhide S2).step bb)
      have OZ := hide (oz.rebase (unhide S2).b.size)
      have LZ := hide (ow_lo oz)
      have zl := (unhide S2).v.lt.2
      have IZ := hide (show IsIssue x.b fa fb fi fq fk z.b 3 from by rw [hz]; exact (unhide I3))
      clear bb oz hz
      clear c0 c1 c2 c3 c4 c5 r0 r1 r2 r3 r4 r5 f0 f1 f2 f3 f4 f5
      obtain ⟨c0, c1, c2, c3, c4, c5⟩ := (unhide S8).c
      have r0 := (unhide S8).v.c0
      have r1 := (unhide S8).v.c1
      have r2 := (unhide S8).v.c2
      have r3 := (unhide S8).v.c3
      have r4 := (unhide S8).v.c4
      have r5 := (unhide S8).v.c5
      have f0 := (unhide S8).v.free 0
      have f1 := (unhide S8).v.free 1
      have f2 := (unhide S8).v.free 2
      have f3 := (unhide S8).v.free 3
      have f4 := (unhide S8).v.free 4
      have f5 := (unhide S8).v.free 5
      go_wp2
      refine bodyPost_ret (v := .tuple #[.agg #[.slice (some ⟨z.ga, 0, none⟩) z.b.ac.length z.ca, .slice (some ⟨z.gi, 0, none⟩) z.b.ic.length z.ci, .slice (some ⟨z.gb, 0, none⟩) z.b.bs.length z.cb, .slice (some ⟨z.gl, 0, none⟩) z.b.ls.length z.cl, .slice (some ⟨z.gt, 0, none⟩) z.b.ts.length z.ct, .int .i64 z.b.lot], .int .i64 3]) (by simp [results, Tryz.results5, go_sem, r0, r1, r2, r3, r4, r5]) rfl (.inr ⟨unhide TT, z, 3, unhide IZ, rfl, ?_, ?_⟩)
      · exact ow_six (unhide OZ) (off_lo (unhide LZ) zl) _ _ _ _ _ _
      · exact six (unhide S8).b (by omega) _ _ _ _ _ _
  have kinds : (((K1 != 2) = true ∨ ((K1 != 2) = false ∧ (K2 != 1) = true) ∨ ((K1 != 2) = false ∧ (K2 != 1) = false ∧ decide (fk > 0) = true ∧ (K3 == 1) = true))) ∧ Hid (kindOf x.b.ac fa ≠ 2 ∨ kindOf x.b.ac fb ≠ 1 ∨ (fk ≠ 0 ∧ kindOf x.b.ic fi = 1)) ∨ ((K1 != 2) = false ∧ (K2 != 1) = false ∧ (decide (fk > 0) = false ∨ (decide (fk > 0) = true ∧ (K3 == 1) = false))) ∧ Hid (¬ (kindOf x.b.ac fa ≠ 2 ∨ kindOf x.b.ac fb ≠ 1 ∨ (fk ≠ 0 ∧ kindOf x.b.ic fi = 1))) := by
    rw [unhide hK1, unhide hK2, unhide hK3]
    have f0 := (unhide TT).2.2.2.2.2.1
    by_cases k1 : K1 = 2
    · by_cases k2 : K2 = 1
      · by_cases k0 : fk > 0
        · by_cases k3 : K3 = 1
          · exact .inl ⟨.inr (.inr ⟨ne_false k1, ne_false k2, decide_eq_true k0, eq_true k3⟩), .inr (.inr ⟨by omega, k3⟩)⟩
          · exact .inr ⟨⟨ne_false k1, ne_false k2, .inr ⟨decide_eq_true k0, eq_false k3⟩⟩, fun hh => by omega⟩
        · exact .inr ⟨⟨ne_false k1, ne_false k2, .inl (decide_eq_false k0)⟩, fun hh => by omega⟩
      · exact .inl ⟨.inr (.inl ⟨ne_false k1, ne_true k2⟩), .inr (.inl k2)⟩
    · exact .inl ⟨.inl (ne_true k1), .inl k1⟩
  obtain ⟨Z, ZZ⟩ | ⟨Z, NK⟩ := kinds
  · have I4 := hide (show IsIssue x.b fa fb fi fq fk x.b 4 from .inr (.inl ⟨unhide NZ, unhide ZZ, rfl, rfl⟩))
    clear hK1 hK2 hK3 KIN ZZ NZ
    obtain m1 | ⟨m1, m2⟩ | ⟨m1, m2, m3, m4⟩ := Z
    · have skip := trivial
      go_wp2_with fail
      refine (SCopy.sCopy _ x (unhide S2).r).mono ?_
      rintro e w8 ⟨z, hz, rfl, oz, bb⟩
      have S8 := hide ((unhide S2).step bb)
      have OZ := hide (oz.rebase (unhide S2).b.size)
      have LZ := hide (ow_lo oz)
      have zl := (unhide S2).v.lt.2
      have IZ := hide (show IsIssue x.b fa fb fi fq fk z.b 4 from by rw [hz]; exact (unhide I4))
      clear bb oz hz
      clear c0 c1 c2 c3 c4 c5 r0 r1 r2 r3 r4 r5 f0 f1 f2 f3 f4 f5
      obtain ⟨c0, c1, c2, c3, c4, c5⟩ := (unhide S8).c
      have r0 := (unhide S8).v.c0
      have r1 := (unhide S8).v.c1
      have r2 := (unhide S8).v.c2
      have r3 := (unhide S8).v.c3
      have r4 := (unhide S8).v.c4
      have r5 := (unhide S8).v.c5
      have f0 := (unhide S8).v.free 0
      have f1 := (unhide S8).v.free 1
      have f2 := (unhide S8).v.free 2
      have f3 := (unhide S8).v.free 3
      have f4 := (unhide S8).v.free 4
      have f5 := (unhide S8).v.free 5
      go_wp2
      refine bodyPost_ret (v := .tuple #[.agg #[.slice (some ⟨z.ga, 0, none⟩) z.b.ac.length z.ca, .slice (some ⟨z.gi, 0, none⟩) z.b.ic.length z.ci, .slice (some ⟨z.gb, 0, none⟩) z.b.bs.length z.cb, .slice (some ⟨z.gl, 0, none⟩) z.b.ls.length z.cl, .slice (some ⟨z.gt, 0, none⟩) z.b.ts.length z.ct, .int .i64 z.b.lot], .int .i64 4]) (by simp [results, Tryz.results5, go_sem, r0, r1, r2, r3, r4, r5]) rfl (.inr ⟨unhide TT, z, 4, unhide IZ, rfl, ?_, ?_⟩)
      · exact ow_six (unhide OZ) (off_lo (unhide LZ) zl) _ _ _ _ _ _
      · exact six (unhide S8).b (by omega) _ _ _ _ _ _
    · have skip := trivial
      go_wp2_with fail
      refine (SCopy.sCopy _ x (unhide S2).r).mono ?_
      rintro e w8 ⟨z, hz, rfl, oz, bb⟩
      have S8 := hide ((unhide S2).step bb)
      have OZ := hide (oz.rebase (unhide S2).b.size)
      have LZ := hide (ow_lo oz)
      have zl := (unhide S2).v.lt.2
      have IZ := hide (show IsIssue x.b fa fb fi fq fk z.b 4 from by rw [hz]; exact (unhide I4))
      clear bb oz hz
      clear c0 c1 c2 c3 c4 c5 r0 r1 r2 r3 r4 r5 f0 f1 f2 f3 f4 f5
      obtain ⟨c0, c1, c2, c3, c4, c5⟩ := (unhide S8).c
      have r0 := (unhide S8).v.c0
      have r1 := (unhide S8).v.c1
      have r2 := (unhide S8).v.c2
      have r3 := (unhide S8).v.c3
      have r4 := (unhide S8).v.c4
      have r5 := (unhide S8).v.c5
      have f0 := (unhide S8).v.free 0
      have f1 := (unhide S8).v.free 1
      have f2 := (unhide S8).v.free 2
      have f3 := (unhide S8).v.free 3
      have f4 := (unhide S8).v.free 4
      have f5 := (unhide S8).v.free 5
      go_wp2
      refine bodyPost_ret (v := .tuple #[.agg #[.slice (some ⟨z.ga, 0, none⟩) z.b.ac.length z.ca, .slice (some ⟨z.gi, 0, none⟩) z.b.ic.length z.ci, .slice (some ⟨z.gb, 0, none⟩) z.b.bs.length z.cb, .slice (some ⟨z.gl, 0, none⟩) z.b.ls.length z.cl, .slice (some ⟨z.gt, 0, none⟩) z.b.ts.length z.ct, .int .i64 z.b.lot], .int .i64 4]) (by simp [results, Tryz.results5, go_sem, r0, r1, r2, r3, r4, r5]) rfl (.inr ⟨unhide TT, z, 4, unhide IZ, rfl, ?_, ?_⟩)
      · exact ow_six (unhide OZ) (off_lo (unhide LZ) zl) _ _ _ _ _ _
      · exact six (unhide S8).b (by omega) _ _ _ _ _ _
    · have skip := trivial
      go_wp2_with fail
      refine (SCopy.sCopy _ x (unhide S2).r).mono ?_
      rintro e w8 ⟨z, hz, rfl, oz, bb⟩
      have S8 := hide ((unhide S2).step bb)
      have OZ := hide (oz.rebase (unhide S2).b.size)
      have LZ := hide (ow_lo oz)
      have zl := (unhide S2).v.lt.2
      have IZ := hide (show IsIssue x.b fa fb fi fq fk z.b 4 from by rw [hz]; exact (unhide I4))
      clear bb oz hz
      clear c0 c1 c2 c3 c4 c5 r0 r1 r2 r3 r4 r5 f0 f1 f2 f3 f4 f5
      obtain ⟨c0, c1, c2, c3, c4, c5⟩ := (unhide S8).c
      have r0 := (unhide S8).v.c0
      have r1 := (unhide S8).v.c1
      have r2 := (unhide S8).v.c2
      have r3 := (unhide S8).v.c3
      have r4 := (unhide S8).v.c4
      have r5 := (unhide S8).v.c5
      have f0 := (unhide S8).v.free 0
      have f1 := (unhide S8).v.free 1
      have f2 := (unhide S8).v.free 2
      have f3 := (unhide S8).v.free 3
      have f4 := (unhide S8).v.free 4
      have f5 := (unhide S8).v.free 5
      go_wp2
      refine bodyPost_ret (v := .tuple #[.agg #[.slice (some ⟨z.ga, 0, none⟩) z.b.ac.length z.ca, .slice (some ⟨z.gi, 0, none⟩) z.b.ic.length z.ci, .slice (some ⟨z.gb, 0, none⟩) z.b.bs.length z.cb, .slice (some ⟨z.gl, 0, none⟩) z.b.ls.length z.cl, .slice (some ⟨z.gt, 0, none⟩) z.b.ts.length z.ct, .int .i64 z.b.lot], .int .i64 4]) (by simp [results, Tryz.results5, go_sem, r0, r1, r2, r3, r4, r5]) rfl (.inr ⟨unhide TT, z, 4, unhide IZ, rfl, ?_, ?_⟩)
      · exact ow_six (unhide OZ) (off_lo (unhide LZ) zl) _ _ _ _ _ _
      · exact six (unhide S8).b (by omega) _ _ _ _ _ _
  clear hK1 hK2
  obtain ⟨m1, m2, Z⟩ := Z
  have K3IN := hide (show K3 = 1 ∨ K3 = 2 from by
    have a := unhide KIN
    have b := unhide NZ
    have c := unhide hK3
    omega)
  rcases Z with m3 | ⟨m3, m4⟩
  all_goals
    go_wp2_with fail
    refine (SCopy.sCopy _ x (unhide S2).r).mono ?_
    rintro e w3 ⟨z, hz, rfl, oz, bb⟩
    have S3 := hide ((unhide S2).step bb)
    have OZ := hide oz
    have HZ := hide hz
    clear bb oz hz
    clear c0 c1 c2 c3 c4 c5 r0 r1 r2 r3 r4 r5 f0 f1 f2 f3 f4 f5
    go_wp2_with fail
    refine (Shorts.sPair _ fa fb fi fq (unhide TT).2.2.2.2.1.1 (unhide TT).2.2.2.2.1.2).mono ?_
    rintro e w4 ⟨gL, rfl, hgL, aL, bb⟩
    have S4 := hide ((unhide S3).step bb)
    have OZ4 := hide ((unhide OZ).below bb (Nat.le_refl _))
    have AL := hide aL
    clear bb aL OZ
    go_wp2_with fail
    refine (sPost w4 w2.heap.size z gL 2 (pairL fa fb fi fq) (unhide OZ4) (by rw [unhide HZ]; exact unhide LI) (by rw [unhide HZ]; exact unhide SM) (by simp [pairL]) hgL (unhide AL) (pair_formed (unhide TT).2.1 (unhide TT).2.2.1 (unhide TT).2.2.2.1 (unhide TT).2.2.2.2.1.1 (unhide TT).2.2.2.2.1.2) (pair_even _ _ _ _)).mono ?_
    rintro e w5 ⟨y1, d1, hp, rfl, o1, bb⟩
    rw [unhide HZ] at hp
    have HP := hide hp
    have S5 := hide ((unhide S4).step bb)
    have S6 := hide ((unhide S5).step (one_more w5 (.cells #[.slice (some ⟨y1.ga, 0, none⟩) y1.b.ac.length y1.ca, .slice (some ⟨y1.gi, 0, none⟩) y1.b.ic.length y1.ci, .slice (some ⟨y1.gb, 0, none⟩) y1.b.bs.length y1.cb, .slice (some ⟨y1.gl, 0, none⟩) y1.b.ls.length y1.cl, .slice (some ⟨y1.gt, 0, none⟩) y1.b.ts.length y1.ct, .int .i64 y1.b.lot] 36)))
    have O15 := hide o1
    have O1 := hide (ow_alloc o1 (.cells #[.slice (some ⟨y1.ga, 0, none⟩) y1.b.ac.length y1.ca, .slice (some ⟨y1.gi, 0, none⟩) y1.b.ic.length y1.ci, .slice (some ⟨y1.gb, 0, none⟩) y1.b.bs.length y1.cb, .slice (some ⟨y1.gl, 0, none⟩) y1.b.ls.length y1.cl, .slice (some ⟨y1.gt, 0, none⟩) y1.b.ts.length y1.ct, .int .i64 y1.b.lot] 36))
    have V6 := hide (Box.made (w := w5) (base := w.heap.size) (g := w5.heap.size) (.slice (some ⟨y1.ga, 0, none⟩) y1.b.ac.length y1.ca) (.slice (some ⟨y1.gi, 0, none⟩) y1.b.ic.length y1.ci) (.slice (some ⟨y1.gb, 0, none⟩) y1.b.bs.length y1.cb) (.slice (some ⟨y1.gl, 0, none⟩) y1.b.ls.length y1.cl) (.slice (some ⟨y1.gt, 0, none⟩) y1.b.ts.length y1.ct) (.int .i64 y1.b.lot) (unhide S5).b.size rfl)
    have l5 := (unhide S5).v.lt.2
    clear bb hp o1 AL hgL OZ4 HZ
    by_cases z1 : d1 = 0
    · subst z1
      by_cases k3 : K3 = 2
      · have k3b : (K3 == 2) = true := eq_true k3
        go_wp2_with fail
        generalize w5.alloc (.cells #[.slice (some ⟨y1.ga, 0, none⟩) y1.b.ac.length y1.ca, .slice (some ⟨y1.gi, 0, none⟩) y1.b.ic.length y1.ci, .slice (some ⟨y1.gb, 0, none⟩) y1.b.bs.length y1.cb, .slice (some ⟨y1.gl, 0, none⟩) y1.b.ls.length y1.cl, .slice (some ⟨y1.gt, 0, none⟩) y1.b.ts.length y1.ct, .int .i64 y1.b.lot] 36) = w6 at *
        refine (sOpenB w6 w2.heap.size y1 fb fi fq fk (unhide O1) (by rw [(posted_lot (unhide HP)).1]; exact (unhide LI).2.2.2.2.2) (posted_small (unhide HP) (unhide SM))).mono ?_
        rintro e w7 ⟨y2, d2, ho, rfl, o2, bb⟩
        have S7 := hide ((unhide S6).step bb)
        have V7 := hide ((unhide V6).below bb (unhide V6).lt.2)
        have O2 := hide o2
        have HO := hide ho
        have KI := hide (show kindOf x.b.ic fi ≠ 1 from by have := unhide hK3; omega)
        clear bb o2 ho
        have a0 := (unhide V7).c0
        have a1 := (unhide V7).c1
        have a2 := (unhide V7).c2
        have a3 := (unhide V7).c3
        have a4 := (unhide V7).c4
        have a5 := (unhide V7).c5
        have g0 := (unhide V7).free 0
        have g1 := (unhide V7).free 1
        have g2 := (unhide V7).free 2
        have g3 := (unhide V7).free 3
        have g4 := (unhide V7).free 4
        have g5 := (unhide V7).free 5
        obtain ⟨c0, c1, c2, c3, c4, c5⟩ := (unhide S7).c
        have r0 := (unhide S7).v.c0
        have r1 := (unhide S7).v.c1
        have r2 := (unhide S7).v.c2
        have r3 := (unhide S7).v.c3
        have r4 := (unhide S7).v.c4
        have r5 := (unhide S7).v.c5
        have f0 := (unhide S7).v.free 0
        have f1 := (unhide S7).v.free 1
        have f2 := (unhide S7).v.free 2
        have f3 := (unhide S7).v.free 3
        have f4 := (unhide S7).v.free 4
        have f5 := (unhide S7).v.free 5
        have l6 : w.heap.size + 1 ≠ w5.heap.size := by omega
        have l7 : w.heap.size ≠ w5.heap.size := by omega
        have F1 := hide (off_box (unhide O2) (unhide S7).v)
        have F2 := hide (off_box (unhide O2) (unhide V7))
        by_cases z2 : d2 = 0
        · subst z2
          have IZ := hide (show IsIssue x.b fa fb fi fq fk y2.b 0 from .inr (.inr ⟨unhide NZ, unhide NK, y1.b, 0, unhide HP, .inr (.inr ⟨rfl, unhide KI, y2.b, 0, unhide HO, .inr ⟨rfl, rfl, rfl⟩⟩)⟩))
          go_wp2
          refine to_wb (fun W => Box W w.heap.size (w.heap.size + 1) (.slice (some ⟨y2.ga, 0, none⟩) y2.b.ac.length y2.ca) (.slice (some ⟨y2.gi, 0, none⟩) y2.b.ic.length y2.ci) (.slice (some ⟨y2.gb, 0, none⟩) y2.b.bs.length y2.cb) (.slice (some ⟨y2.gl, 0, none⟩) y2.b.ls.length y2.cl) (.slice (some ⟨y2.gt, 0, none⟩) y2.b.ts.length y2.ct) (.int .i64 y2.b.lot) ∧ Below w.heap.size w W ∧ Ow W w.heap.size y2) ?_ ?_
          · exact ⟨(box_six ((unhide S7).v.kept (box_six (unhide V7) _ _ _ _ _ _).2 (fun e => by injection e; omega)) _ _ _ _ _ _).1, six (six (unhide S7).b (by omega) _ _ _ _ _ _) (by omega) _ _ _ _ _ _, (ow_six (ow_six (unhide O2) (unhide F2) _ _ _ _ _ _) (unhide F1) _ _ _ _ _ _).rebase (unhide S2).b.size⟩
          rintro W ⟨X, B, OW⟩
          have p0 := X.c0
          have p1 := X.c1
          have p2 := X.c2
          have p3 := X.c3
          have p4 := X.c4
          have p5 := X.c5
          exact bodyPost_ret (v := .tuple #[.agg #[.slice (some ⟨y2.ga, 0, none⟩) y2.b.ac.length y2.ca, .slice (some ⟨y2.gi, 0, none⟩) y2.b.ic.length y2.ci, .slice (some ⟨y2.gb, 0, none⟩) y2.b.bs.length y2.cb, .slice (some ⟨y2.gl, 0, none⟩) y2.b.ls.length y2.cl, .slice (some ⟨y2.gt, 0, none⟩) y2.b.ts.length y2.ct, .int .i64 y2.b.lot], .int .i64 0]) (by simp [results, Tryz.results5, go_sem, p0, p1, p2, p3, p4, p5]) rfl (.inr ⟨unhide TT, y2, 0, unhide IZ, rfl, OW, B⟩)
        · have z2c : (d2 != 0) = true := ne_true z2
          have IZ2 := hide (show IsIssue x.b fa fb fi fq fk x.b d2 from .inr (.inr ⟨unhide NZ, unhide NK, y1.b, 0, unhide HP, .inr (.inr ⟨rfl, unhide KI, y2.b, d2, unhide HO, .inl ⟨z2, rfl, rfl⟩⟩)⟩))
          clear z2
          have T8 := hide (SR.grown (unhide HR) (unhide S7) (box_six (unhide V7) (.slice (some ⟨y2.ga, 0, none⟩) y2.b.ac.length y2.ca) (.slice (some ⟨y2.gi, 0, none⟩) y2.b.ic.length y2.ci) (.slice (some ⟨y2.gb, 0, none⟩) y2.b.bs.length y2.cb) (.slice (some ⟨y2.gl, 0, none⟩) y2.b.ls.length y2.cl) (.slice (some ⟨y2.gt, 0, none⟩) y2.b.ts.length y2.ct) (.int .i64 y2.b.lot)).2 (by omega))
          go_wp2_with fail
          refine (SCopy.sCopy _ x (unhide T8).r).mono ?_
          rintro e w8 ⟨z, hz, rfl, oz, bb⟩
          have S8 := hide ((unhide T8).step bb)
          have OZ := hide (oz.rebase (unhide T8).b.size)
          have LZ := hide (ow_lo oz)
          have zl := (unhide T8).v.lt.2
          have IZ := hide (show IsIssue x.b fa fb fi fq fk z.b d2 from by rw [hz]; exact (unhide IZ2))
          clear bb oz hz
          clear c0 c1 c2 c3 c4 c5 r0 r1 r2 r3 r4 r5 f0 f1 f2 f3 f4 f5
          obtain ⟨c0, c1, c2, c3, c4, c5⟩ := (unhide S8).c
          have r0 := (unhide S8).v.c0
          have r1 := (unhide S8).v.c1
          have r2 := (unhide S8).v.c2
          have r3 := (unhide S8).v.c3
          have r4 := (unhide S8).v.c4
          have r5 := (unhide S8).v.c5
          have f0 := (unhide S8).v.free 0
          have f1 := (unhide S8).v.free 1
          have f2 := (unhide S8).v.free 2
          have f3 := (unhide S8).v.free 3
          have f4 := (unhide S8).v.free 4
          have f5 := (unhide S8).v.free 5
          go_wp2
          refine bodyPost_ret (v := .tuple #[.agg #[.slice (some ⟨z.ga, 0, none⟩) z.b.ac.length z.ca, .slice (some ⟨z.gi, 0, none⟩) z.b.ic.length z.ci, .slice (some ⟨z.gb, 0, none⟩) z.b.bs.length z.cb, .slice (some ⟨z.gl, 0, none⟩) z.b.ls.length z.cl, .slice (some ⟨z.gt, 0, none⟩) z.b.ts.length z.ct, .int .i64 z.b.lot], .int .i64 d2]) (by simp [results, Tryz.results5, go_sem, r0, r1, r2, r3, r4, r5]) rfl (.inr ⟨unhide TT, z, d2, unhide IZ, rfl, ?_, ?_⟩)
          · exact ow_six (unhide OZ) (off_lo (unhide LZ) zl) _ _ _ _ _ _
          · exact six (unhide S8).b (by omega) _ _ _ _ _ _
      · have k3b : (K3 == 2) = false := eq_false k3
        have KI := hide (show kindOf x.b.ic fi = 1 from by have := unhide hK3; have := unhide K3IN; omega)
        have IZ := hide (show IsIssue x.b fa fb fi fq fk y1.b 0 from .inr (.inr ⟨unhide NZ, unhide NK, y1.b, 0, unhide HP, .inr (.inl ⟨rfl, unhide KI, rfl, rfl⟩)⟩))
        have l6 : w.heap.size + 1 ≠ w5.heap.size := by omega
        have F1 := hide (off_box (unhide O15) (unhide S5).v)
        obtain ⟨c0, c1, c2, c3, c4, c5⟩ := (unhide S5).c
        have r0 := (unhide S5).v.c0
        have r1 := (unhide S5).v.c1
        have r2 := (unhide S5).v.c2
        have r3 := (unhide S5).v.c3
        have r4 := (unhide S5).v.c4
        have r5 := (unhide S5).v.c5
        have f0 := (unhide S5).v.free 0
        have f1 := (unhide S5).v.free 1
        have f2 := (unhide S5).v.free 2
        have f3 := (unhide S5).v.free 3
        have f4 := (unhide S5).v.free 4
        have f5 := (unhide S5).v.free 5
        go_wp2
        refine to_wb (fun W => Box W w.heap.size (w.heap.size + 1) (.slice (some ⟨y1.ga, 0, none⟩) y1.b.ac.length y1.ca) (.slice (some ⟨y1.gi, 0, none⟩) y1.b.ic.length y1.ci) (.slice (some ⟨y1.gb, 0, none⟩) y1.b.bs.length y1.cb) (.slice (some ⟨y1.gl, 0, none⟩) y1.b.ls.length y1.cl) (.slice (some ⟨y1.gt, 0, none⟩) y1.b.ts.length y1.ct) (.int .i64 y1.b.lot) ∧ Below w.heap.size w W ∧ Ow W w.heap.size y1) ?_ ?_
        · exact ⟨box_six_alloc (unhide S5).v _ _ _ _ _ _ _, six_alloc (unhide S5).b (unhide S5).b.size (by omega) _ _ _ _ _ _ _, ow_six_alloc (unhide O15) (unhide F1) (unhide S2).b.size _ _ _ _ _ _ _⟩
        rintro W ⟨X, B, OW⟩
        have p0 := X.c0
        have p1 := X.c1
        have p2 := X.c2
        have p3 := X.c3
        have p4 := X.c4
        have p5 := X.c5
        exact bodyPost_ret (v := .tuple #[.agg #[.slice (some ⟨y1.ga, 0, none⟩) y1.b.ac.length y1.ca, .slice (some ⟨y1.gi, 0, none⟩) y1.b.ic.length y1.ci, .slice (some ⟨y1.gb, 0, none⟩) y1.b.bs.length y1.cb, .slice (some ⟨y1.gl, 0, none⟩) y1.b.ls.length y1.cl, .slice (some ⟨y1.gt, 0, none⟩) y1.b.ts.length y1.ct, .int .i64 y1.b.lot], .int .i64 0]) (by simp [results, Tryz.results5, go_sem, p0, p1, p2, p3, p4, p5]) rfl (.inr ⟨unhide TT, y1, 0, unhide IZ, rfl, OW, B⟩)
    · have z1b : (d1 == 0) = false := eq_false z1
      have z1c : (d1 != 0) = true := ne_true z1
      have IZ1 := hide (show IsIssue x.b fa fb fi fq fk x.b d1 from .inr (.inr ⟨unhide NZ, unhide NK, y1.b, d1, unhide HP, .inl ⟨z1, rfl, rfl⟩⟩))
      clear z1
      obtain ⟨c0, c1, c2, c3, c4, c5⟩ := (unhide S6).c
      have r0 := (unhide S6).v.c0
      have r1 := (unhide S6).v.c1
      have r2 := (unhide S6).v.c2
      have r3 := (unhide S6).v.c3
      have r4 := (unhide S6).v.c4
      have r5 := (unhide S6).v.c5
      have f0 := (unhide S6).v.free 0
      have f1 := (unhide S6).v.free 1
      have f2 := (unhide S6).v.free 2
      have f3 := (unhide S6).v.free 3
      have f4 := (unhide S6).v.free 4
      have f5 := (unhide S6).v.free 5
      go_wp2_with fail
      refine (SCopy.sCopy _ x (unhide S6).r).mono ?_
      rintro e w8 ⟨z, hz, rfl, oz, bb⟩
      have S8 := hide ((unhide S6).step bb)
      have OZ := hide (oz.rebase (unhide S6).b.size)
      have LZ := hide (ow_lo oz)
      have zl := (unhide S6).v.lt.2
      have IZ := hide (show IsIssue x.b fa fb fi fq fk z.b d1 from by rw [hz]; exact (unhide IZ1))
      clear bb oz hz
      clear c0 c1 c2 c3 c4 c5 r0 r1 r2 r3 r4 r5 f0 f1 f2 f3 f4 f5
      obtain ⟨c0, c1, c2, c3, c4, c5⟩ := (unhide S8).c
      have r0 := (unhide S8).v.c0
      have r1 := (unhide S8).v.c1
      have r2 := (unhide S8).v.c2
      have r3 := (unhide S8).v.c3
      have r4 := (unhide S8).v.c4
      have r5 := (unhide S8).v.c5
      have f0 := (unhide S8).v.free 0
      have f1 := (unhide S8).v.free 1
      have f2 := (unhide S8).v.free 2
      have f3 := (unhide S8).v.free 3
      have f4 := (unhide S8).v.free 4
      have f5 := (unhide S8).v.free 5
      go_wp2
      refine bodyPost_ret (v := .tuple #[.agg #[.slice (some ⟨z.ga, 0, none⟩) z.b.ac.length z.ca, .slice (some ⟨z.gi, 0, none⟩) z.b.ic.length z.ci, .slice (some ⟨z.gb, 0, none⟩) z.b.bs.length z.cb, .slice (some ⟨z.gl, 0, none⟩) z.b.ls.length z.cl, .slice (some ⟨z.gt, 0, none⟩) z.b.ts.length z.ct, .int .i64 z.b.lot], .int .i64 d1]) (by simp [results, Tryz.results5, go_sem, r0, r1, r2, r3, r4, r5]) rfl (.inr ⟨unhide TT, z, d1, unhide IZ, rfl, ?_, ?_⟩)
      · exact ow_six (unhide OZ) (off_lo (unhide LZ) zl) _ _ _ _ _ _
      · exact six (unhide S8).b (by omega) _ _ _ _ _ _
end Go.Proofs.YteccbaohfmhnfaaGreat.SIssue
namespace Go.Proofs.YteccbaohfmhnfaaGreat.IPostB
open Go.ChangeShapes Go.WideShapes Go.ChangeAt Go.RowKit BMem Bks ILists BHelp Ans ICopied ICmdB IHave SBk
open IBalsFit (one_more all_one)
open ITrade (at_new)
open Lots (Says says_of NoOk)
open Bals (T3)
open Tup5 (T5)
set_option maxRecDepth 100000 in
set_option maxHeartbeats 4000000 in
theorem iPostT (u : World) (z : Bx) (base g gL capL : Nat) (ls : List T3) (ok : Lists z.b) (sm : Small z.b) (V : Var u base g z) (O : Ow u (base + 4) z) (hg : g < base + 4) (hl : ls.length ≤ 1048576) (hgL : gL < u.heap.size) (hL : Triples.At3 u gL ls) (hf : Bals.Formed ls) (he : Bals.Even ls) :
    Calls Tryz.prog 76 #[.pointer (some ⟨g, 0, none⟩), .slice (some ⟨gL, 0, none⟩) ls.length capL] u fun e u' => ∃ (y : Bx) (c : Int), IsPosted z.b ls y.b c ∧ e = .returned (.int .i64 c) ∧ Var u' base g y ∧ Ow u' (base + 4) y ∧ u.grownBy u' (some g) ∧ y.gt = z.gt ∧ y.ct = z.ct := by
  have PC := hide (fun qs c (hp : Bals.IsPost z.b.bs ls (shortL z.b.ac) qs c) => post_code hp ok.2.2.1 hf he (Nat.le_trans (short_len _) ok.1.1))
  have xl : (shortL z.b.ac).length ≤ 1048576 := Nat.le_trans (short_len _) sm.1
  have na := sm.1
  have nb := sm.2.2.1
  have L0 := hide hL
  have S0 := hide (DW.start V O sm)
  have S1 := hide ((unhide S0).step (one_more u (.cells #[] 3)))
  have O1 := hide (Shorts.lit0 u u.heap.size (Nat.le_refl _) rfl)
  have hb0 := O.oa.lt
  have hgu := Box.lt V
  have d0 := (unhide S1).v.c0
  have d2 := (unhide S1).v.c2
  have z1 : u.heap.size < (u.alloc (.cells #[] 3)).heap.size := by simp
  clear ok V O hf he hL sm
  go_enter Tryz.func76, Tryz.ntmps76
  go_wp2
  generalize u.alloc (.cells #[] 3) = u1 at *
  clear d0 d2
  go_loopw [5, 16] (fun l j wr => ∃ (p : List Int) (g1 c1 k : Nat), l = .slice (some ⟨g1, 0, none⟩) p.length c1 ∧ j = .int .i64 k ∧ k ≤ z.b.ac.length ∧ p.length ≤ k ∧ Hid (p = shortL (z.b.ac.take k)) ∧ Hid (Ints.Own wr u.heap.size g1 p.length c1 p) ∧ Hid (DW u wr z base g)) (fun _ j _ => z.b.ac.length - (intOf j).toNat)
  case atStart => exact ⟨[], u.heap.size, 0, 0, rfl, rfl, by omega, by simp, hide rfl, O1, S1⟩
  case round =>
    clear O1 S1
    obtain ⟨p, g1, c1, k, rfl, rfl, hk, pl, HP, H1, S2⟩ := hrel
    have bs := (unhide S2).b.size
    by_cases t : k < z.b.ac.length
    · obtain ⟨e0, e1⟩ := (unhide S2).r.ra k t
      have NP := hide (short_next (ps := z.b.ac) (k := k) t)
      rw [← unhide HP] at NP
      obtain ⟨no, hno⟩ : ∃ no, Hid ((z.b.ac.getD k (0, 0)).1 = no) := ⟨_, rfl⟩
      obtain ⟨kd, hkd⟩ : ∃ kd, Hid ((z.b.ac.getD k (0, 0)).2 = kd) := ⟨_, rfl⟩
      rw [unhide hno] at e0
      rw [unhide hkd] at e1
      have NQ := hide (show shortL (z.b.ac.take (k + 1)) = p ++ (if kd = 1 then [] else [no]) from by
        first | (rw [unhide NP, ← unhide hno, ← unhide hkd]; done) | (rw [unhide NP, ← unhide hno, ← unhide hkd]; rfl))
      clear NP hno hkd
      have S3 := hide ((unhide S2).step (one_more wr (.cells #[.int .i64 no, .int .i64 kd] 86)))
      have H3 := hide (Shorts.own_alloc (unhide H1) (.cells #[.int .i64 no, .int .i64 kd] 86))
      by_cases own : kd = 1
      · have NP1 : Hid (shortL (z.b.ac.take (k + 1)) = p) := hide (by rw [unhide NQ, if_pos own, List.append_nil])
        clear NQ
        subst own
        go_wp2
        go_roundw
        case rel => exact ⟨p, g1, c1, k + 1, rfl, by go_num, by omega, by omega, hide (unhide NP1).symm, H3, S3⟩
        case measure => simp [intOf]; omega
      · have NP1 : Hid (shortL (z.b.ac.take (k + 1)) = p ++ [no]) := hide (by rw [unhide NQ, if_neg own])
        have ob : (kd != 1) = true := by simpa using own
        clear NQ own
        go_wp2_with (first | (at_builtin; refine Shorts.wp_appI _ rfl _ _ rfl u.heap.size g1 p.length c1 p (wr.heap.size + 1) no rfl rfl (Shorts.own_alloc (unhide H3) _) (by simp) (by omega) (by simp; omega) ?_) | go_in)
        intro g5 c5 w5 o5 gr5 loc5
        have O5 := hide o5
        have S5 := hide (show DW u w5 z base g from by
          have l := (unhide H1).lt
          have s4 := (unhide S3).step (one_more (wr.alloc (.cells #[.int .i64 no, .int .i64 kd] 86)) (.cells #[.int .i64 no] 3))
          have b5 : Below u.heap.size u w5 := s4.b.grown gr5 (by simp; omega) (fun j hj => by cases hj; exact l.1)
          have lz := ow_up (unhide S0).o
          exact ⟨(unhide S0).r.below b5, Box.below (unhide S0).v b5 hgu.2, (unhide S0).o.below b5 (Nat.le_refl _), b5⟩)
        clear o5 gr5 loc5
        go_wp2
        go_roundw
        case rel => exact ⟨p ++ [no], g5, c5, k + 1, by rw [show (p ++ [no]).length = p.length + 1 by simp], by go_num, by omega, by simp; omega, hide (unhide NP1).symm, hide (by rw [show (p ++ [no]).length = p.length + 1 by simp]; exact unhide O5), S5⟩
        case measure => simp [intOf]; omega
    · obtain rfl : k = z.b.ac.length := by omega
      have EP := hide (show p = shortL z.b.ac by rw [unhide HP, List.take_of_length_le (by omega)])
      have pl2 : p.length ≤ 1048576 := by omega
      clear HP
      have d2 := (unhide S2).v.c2
      go_wp2_with fail
      refine (Post2.iBalsPost wr z.gb _ z.cb gL _ capL g1 _ c1 z.b.bs ls p rfl rfl rfl nb hl pl2 (unhide S2).r.lb (Nat.lt_of_lt_of_le hgL (unhide S2).b.size) (unhide H1).lt.2 (unhide S2).r.rb ((unhide L0).below (unhide S2).b hgL) (unhide H1).at).mono ?_
      rintro e w3 ⟨qs, pc, g5, k5, hp, rfl, o5, bb⟩
      rw [unhide EP] at hp
      have S3 := hide ((unhide S2).step bb)
      have HP := hide hp
      have O5 := hide o5
      have l5 := o5.lt
      clear bb hp o5 d2
      have e2 := (unhide S3).v.c2
      have f2 := (unhide S3).v.free 2
      rcases (unhide PC) _ _ (unhide HP) with rfl | rfl | rfl | rfl
      · have OY := hide (ow_withB (unhide S3).o ((unhide O5).rebase (base' := base + 4) (by omega)))
        have UZ := hide (ow_up (unhide S0).o)
        go_wp2
        go_ret
        refine ⟨withB z g5 k5 qs, 0, ⟨qs, 0, unhide HP, .inl ⟨rfl, rfl, rfl⟩⟩, rfl, (Box.set2 (unhide S3).v _).1, ?_, Pairs.grown_trans (unhide S3).grown (Box.set2 (unhide S3).v _).2, rfl, rfl⟩
        refine ow_set (unhide OY) ?_ 2 _
        have LO := ow_lo (unhide S0).o
        unfold Lo at LO
        unfold Off
        simp
        omega
      · go_wp2
        go_ret
        exact ⟨z, 5, ⟨qs, 3, unhide HP, .inr (.inl ⟨rfl, rfl, rfl⟩)⟩, rfl, (unhide S3).v, (unhide S3).o, (unhide S3).grown, rfl, rfl⟩
      · go_wp2
        go_ret
        exact ⟨z, 8, ⟨qs, 4, unhide HP, .inr (.inr (.inl ⟨rfl, rfl, rfl⟩))⟩, rfl, (unhide S3).v, (unhide S3).o, (unhide S3).grown, rfl, rfl⟩
      · go_wp2
        go_ret
        exact ⟨z, 7, ⟨qs, 5, unhide HP, .inr (.inr (.inr ⟨rfl, rfl, rfl⟩))⟩, rfl, (unhide S3).v, (unhide S3).o, (unhide S3).grown, rfl, rfl⟩
theorem iPost (u : World) (z : Bx) (base g gL capL : Nat) (ls : List T3) (ok : Lists z.b) (sm : Small z.b) (V : Var u base g z) (O : Ow u (base + 4) z) (hg : g < base + 4) (hl : ls.length ≤ 1048576) (hgL : gL < u.heap.size) (hL : Triples.At3 u gL ls) (hf : Bals.Formed ls) (he : Bals.Even ls) :
    Calls Tryz.prog 76 #[.pointer (some ⟨g, 0, none⟩), .slice (some ⟨gL, 0, none⟩) ls.length capL] u fun e u' => ∃ (y : Bx) (c : Int), IsPosted z.b ls y.b c ∧ e = .returned (.int .i64 c) ∧ Var u' base g y ∧ Ow u' (base + 4) y ∧ u.grownBy u' (some g) :=
  (iPostT u z base g gL capL ls ok sm V O hg hl hgL hL hf he).mono (fun e u' ⟨y, c, h1, h2, h3, h4, h5, _⟩ => ⟨y, c, h1, h2, h3, h4, h5⟩)
end Go.Proofs.YteccbaohfmhnfaaGreat.IPostB
namespace Go.Proofs.YteccbaohfmhnfaaGreat.ITakeBk
open Go.ChangeShapes Go.WideShapes Go.ChangeAt Go.RowKit BMem Bks ILists BHelp Ans ICopied ICmdB IHave SBk
open IBalsFit (one_more all_one)
open Lots (Says says_of NoOk)
open Bals (T3)
open Tup5 (T5)
open Concat5 (OwnV)
open ILotsFit (below_of_drew)
/-- Books of the call's own whose list of lots is v, which may be nothing at all. -/
structure OwL (w : World) (base : Nat) (x : Bx) (v : Value) : Prop where
  oa : Pairs.Own 86 w base x.ga x.b.ac.length x.ca x.b.ac
  oi : Pairs.Own 87 w base x.gi x.b.ic.length x.ci x.b.ic
  ob : Triples.Own3 102 w base x.gb x.b.bs.length x.cb x.b.bs
  ol : OwnV 97 w base v x.b.ls
  ot : Tup8.Own8 84 w base x.gt x.b.ts.length x.ct x.b.ts
theorem OwL.of {w : World} {base : Nat} {x : Bx} (h : Ow w base x) : OwL w base x (.slice (some ⟨x.gl, 0, none⟩) x.b.ls.length x.cl) := ⟨h.oa, h.oi, h.ob, Concat5.OwnV.of h.ol, h.ot⟩
theorem OwL.below {w w' : World} {base B : Nat} {x : Bx} {v : Value} (h : OwL w base x v) (k : Below B w w') (hB : w.heap.size ≤ B) : OwL w' base x v :=
  ⟨h.oa.below k (by have := h.oa.lt; omega), h.oi.below k (by have := h.oi.lt; omega), h.ob.below k (by have := h.ob.lt; omega), h.ol.below k (fun g hg => by have := h.ol.lt g hg; omega), h.ot.below k (by have := h.ot.lt; omega)⟩
/-- The variable of x, whose list of lots is v. -/
def VarL (w : World) (base g : Nat) (x : Bx) (v : Value) : Prop := Box w base g (.slice (some ⟨x.ga, 0, none⟩) x.b.ac.length x.ca) (.slice (some ⟨x.gi, 0, none⟩) x.b.ic.length x.ci) (.slice (some ⟨x.gb, 0, none⟩) x.b.bs.length x.cb) v (.slice (some ⟨x.gt, 0, none⟩) x.b.ts.length x.ct) (.int .i64 x.b.lot)
theorem VarL.any {w : World} {base g : Nat} {x : Bx} {ao : Option Addr} {n k : Nat} (h : VarL w base g x (.slice ao n k)) : AnyBox w base g := ⟨_, _, _, _, _, _, _, _, _, _, _, _, _, _, _, _, h⟩
theorem below_grown {u W : World} {g : Nat} (h : Below u.heap.size u W) : u.grownBy W (some g) := ⟨h.os, h.tape, h.output, h.size, fun j hj _ => h.block j hj⟩
end Go.Proofs.YteccbaohfmhnfaaGreat.ITakeBk
namespace Go.Proofs.YteccbaohfmhnfaaGreat.IOpenBk
open Go.ChangeShapes Go.WideShapes Go.ChangeAt Go.RowKit BMem Bks ILists BHelp Ans ICopied ICmdB IHave SBk ITakeBk
open IBalsFit (one_more all_one)
open Lots (Says says_of NoOk)
open Bals (T3)
open Tup5 (T5)
open Concat5 (OwnV)
open ILotsFit (below_of_drew)
set_option maxRecDepth 100000 in
set_option maxHeartbeats 4000000 in
theorem iOpenBkT (u : World) (z : Bx) (v : Value) (base g : Nat) (a i q cost : Int) (hlot : 0 ≤ z.b.lot ∧ z.b.lot ≤ 1000000000) (nl : z.b.ls.length ≤ 1048576) (V : VarL u base g z v) (O : OwL u (base + 4) z v) (hg : g < base + 4) :
    Calls Tryz.prog 78 #[.pointer (some ⟨g, 0, none⟩), .int .i64 a, .int .i64 i, .int .i64 q, .int .i64 cost] u fun e u' => ∃ (b' : Bk) (c : Int), IsOpen z.b a i q cost b' c ∧ e = .returned (.int .i64 c) ∧ ((c = 0 ∧ ∃ y : Bx, y.b = b' ∧ Var u' base g y ∧ Ow u' (base + 4) y ∧ y.gt = z.gt ∧ y.ct = z.ct) ∨ (c ≠ 0 ∧ AnyBox u' base g)) ∧ u.grownBy u' (some g) := by
  obtain ⟨ao, n, k, rfl⟩ : ∃ ao n k, v = .slice ao n k := by
    rcases O.ol.cases with ⟨rfl, _⟩ | ⟨g', c', rfl, _⟩
    · exact ⟨_, _, _, rfl⟩
    · exact ⟨_, _, _, rfl⟩
  obtain ⟨ok, hok⟩ := says_of (Lots.Right z.b.ls)
  obtain ⟨okl, hkl⟩ := says_of (Lots.One (opened z.b a i q cost))
  obtain ⟨okn, hkn⟩ := says_of (Lots.Right (Lots.mergeL (z.b.ls.length + 1) z.b.ls [opened z.b a i q cost]))
  have HO := hide hok
  have HL := hide hkl
  have HN := hide hkn
  have V0 := hide V
  have O0 := hide O
  have d3 := Box.c3 V
  have d5 := Box.c5 V
  have hgu := Box.lt V
  obtain ⟨l0, l1⟩ := hlot
  clear hok hkl hkn V O
  by_cases full : z.b.lot = 1000000000
  · have fb : (z.b.lot == 1000000000) = true := by simp [full]
    have HF := hide full
    clear full
    go_enter Tryz.func78, Tryz.ntmps78
    go_wp2
    go_ret
    exact ⟨z.b, 7, .inr ⟨fun h => h.1 (unhide HF), rfl, rfl⟩, rfl, .inr ⟨by omega, VarL.any (unhide V0)⟩, below_grown (Below.refl _ _)⟩
  have fb : (z.b.lot == 1000000000) = false := by simpa using full
  have HF := hide full
  clear full
  go_enter Tryz.func78, Tryz.ntmps78
  go_wp2_with fail
  have K4 := And.intro d3 d5
  have HW : IntKind.i64.wrap (z.b.lot + 1) = z.b.lot + 1 := by rw [IntKind.wrap_i64]; omega
  go_region_held3 (fun w' => w'.cell? ⟨g, 3, none⟩ = some (.slice ao n k) ∧ w'.cell? ⟨g, 5, none⟩ = some (.int .i64 z.b.lot)) (first | exact K4 | exact K5)
    (first | (go_at_call 108; refine (Open0.openV u.drew (base + 4) (.slice ao n k) z.b.ls _ a i (z.b.lot + 1) q cost ok okl okn (hide rfl) nl (unhide O0).ol (unhide HO) (unhide HL) (unhide HN)).mono ?_; rintro e w2 ⟨g2, c2, rfl, o2, bb⟩; have bW : Below u.heap.size u w2 := below_of_drew bb; have V2 := hide (Box.below (unhide V0) bW hgu.2); have K5 := And.intro (Box.c3 (unhide V2)) (Box.c5 (unhide V2)); have BW := hide bW; have O2 := hide (show Tup5.Own5 97 w2 u.heap.size g2 _ c2 _ from o2); clear o2 bb bW))
  clear K4 K5 d3 d5
  have e3 := Box.c3 (unhide V2)
  have e5 := Box.c5 (unhide V2)
  have f3 := Box.free (unhide V2) 3
  have f5 := Box.free (unhide V2) 5
  rcases open_cases ok okl okn with ⟨rfl, rfl, rfl⟩ | ⟨hne, hno⟩
  · obtain ⟨R, hR⟩ : ∃ R, Hid (Lots.mergeL (z.b.ls.length + 1) z.b.ls [opened z.b a i q cost] = R) := ⟨_, rfl⟩
    have O2 := hide (show Tup5.Own5 97 w2 u.heap.size g2 R.length c2 R from by rw [← unhide hR]; exact unhide O2)
    have IS := hide (show IsOpen z.b a i q cost (withL z g2 c2 R (z.b.lot + 1)).b 0 from .inl ⟨⟨unhide HF, (unhide HO).yes, (unhide HL).yes, (unhide HN).yes⟩, by rw [← unhide hR], rfl⟩)
    rw [show (SOpen.openA z.b.ls (Lots.mergeL (z.b.ls.length + 1) z.b.ls [(a, i, z.b.lot + 1, q, cost)]) true true true).length = R.length from by rw [← unhide hR]; rfl, show SOpen.openC true true true = 0 from rfl]
    go_wp2
    go_ret
    have OL := (unhide O0).below (unhide BW) (Nat.le_refl _)
    have la := OL.oa.lt
    have li := OL.oi.lt
    have lb := OL.ob.lt
    have lt := OL.ot.lt
    have l2 := (unhide O2).lt
    have l0 := (unhide O0).oa.lt
    have OY : Ow w2 (base + 4) (withL z g2 c2 R (z.b.lot + 1)) := ⟨OL.oa, OL.oi, OL.ob, (unhide O2).rebase (by omega), OL.ot⟩
    have F : Off (withL z g2 c2 R (z.b.lot + 1)) g := by
      unfold Off withL
      simp
      omega
    refine ⟨(withL z g2 c2 R (z.b.lot + 1)).b, 0, unhide IS, rfl, .inl ⟨rfl, withL z g2 c2 R (z.b.lot + 1), rfl, (Box.set5 (Box.set3 (unhide V2) _).1 _).1, ow_set (ow_set OY F 3 _) F 5 _, rfl, rfl⟩, Pairs.grown_trans (below_grown (unhide BW)) (Pairs.grown_trans (Box.set3 (unhide V2) _).2 (Box.set5 (Box.set3 (unhide V2) _).1 _).2)⟩
  · have IS := hide (show IsOpen z.b a i q cost z.b 7 from .inr ⟨fun h => hno ⟨(unhide HO).of h.2.1, (unhide HL).of h.2.2.1, (unhide HN).of h.2.2.2⟩, rfl, rfl⟩)
    obtain ⟨c, hc⟩ : ∃ c, Hid (SOpen.openC ok okl okn = c) := ⟨_, rfl⟩
    have cb : (c != 0) = true := by rw [← unhide hc]; simpa using hne
    rw [unhide hc]
    clear hne hno
    go_wp2
    go_ret
    exact ⟨z.b, 7, unhide IS, rfl, .inr ⟨by omega, VarL.any (unhide V2)⟩, below_grown (unhide BW)⟩
theorem iOpenBk (u : World) (z : Bx) (v : Value) (base g : Nat) (a i q cost : Int) (hlot : 0 ≤ z.b.lot ∧ z.b.lot ≤ 1000000000) (nl : z.b.ls.length ≤ 1048576) (V : VarL u base g z v) (O : OwL u (base + 4) z v) (hg : g < base + 4) :
    Calls Tryz.prog 78 #[.pointer (some ⟨g, 0, none⟩), .int .i64 a, .int .i64 i, .int .i64 q, .int .i64 cost] u fun e u' => ∃ (b' : Bk) (c : Int), IsOpen z.b a i q cost b' c ∧ e = .returned (.int .i64 c) ∧ ((c = 0 ∧ ∃ y : Bx, y.b = b' ∧ Var u' base g y ∧ Ow u' (base + 4) y) ∨ (c ≠ 0 ∧ AnyBox u' base g)) ∧ u.grownBy u' (some g) :=
  (iOpenBkT u z v base g a i q cost hlot nl V O hg).mono (fun e u' ⟨b2, c2, h1, h2, h3, h4⟩ => ⟨b2, c2, h1, h2, h3.elim (fun ⟨a, y, b, c, d, _⟩ => .inl ⟨a, y, b, c, d⟩) .inr, h4⟩)
end Go.Proofs.YteccbaohfmhnfaaGreat.IOpenBk
namespace Go.Proofs.YteccbaohfmhnfaaGreat.IIssue
open Go.ChangeShapes Go.WideShapes Go.ChangeAt Go.RowKit BMem Bks ILists BHelp Ans ICopied ICmdB IHave SBk ITakeBk
open SIssue (ToldI posted_small posted_lot ne_true ne_false eq_true eq_false)
open IBalsFit (one_more all_one)
open ITrade (at_new)
open Lots (Says says_of NoOk)
open Bals (T3)
open Tup5 (T5)
set_option maxRecDepth 100000 in
set_option maxHeartbeats 8000000 in
theorem iIssue (u : World) (z : Bx) (base g : Nat) (fa fb fi fq fk : Int) (told : ToldI z.b fa fb fi fq fk) (V : Var u base g z) (O : Ow u (base + 4) z) (hg : g < base + 4) :
    Calls Tryz.prog 34 #[.pointer (some ⟨g, 0, none⟩), .int .i64 fa, .int .i64 fb, .int .i64 fi, .int .i64 fq, .int .i64 fk] u fun e u' => ∃ (b' : Bk) (c : Int), IsIssue z.b fa fb fi fq fk b' c ∧ e = .returned (.int .i64 c) ∧ ((c = 0 ∧ ∃ y : Bx, y.b = b' ∧ Var u' base g y ∧ Ow u' (base + 4) y) ∨ (c ≠ 0 ∧ AnyBox u' base g)) ∧ u.grownBy u' (some g) := by
  obtain ⟨b0, h0⟩ := says_of (∀ y ∈ [fa, fb], kindOf z.b.ac y ≠ 0)
  obtain ⟨b1, h1⟩ := says_of (∀ y ∈ [fi], kindOf z.b.ic y ≠ 0)
  obtain ⟨t2, h2⟩ := says_of (kindOf z.b.ac fb = 1)
  obtain ⟨t3, h3⟩ := says_of (kindOf z.b.ic fi = 1)
  obtain ⟨t5, h5⟩ := says_of (kindOf z.b.ac fa = 2)
  have H0 := hide h0
  have H1 := hide h1
  have H2 := hide h2
  have H3 := hide h3
  have H5 := hide h5
  have TT := hide told
  have LI := hide told.1.1
  have SM := hide (ok_small told.1)
  have S0 := hide (DW.start V O (ok_small told.1))
  have S1 := hide ((unhide S0).step (one_more u (.cells #[.int .i64 fa, .int .i64 fb] 3)))
  have d0 := Box.c0 V
  have d1 := Box.c1 V
  have d2 := Box.c2 V
  have d3 := Box.c3 V
  have d4 := Box.c4 V
  have d5 := Box.c5 V
  clear h0 h1 h2 h3 h5 told V O
  go_enter Tryz.func34, Tryz.ntmps34
  go_wp2_with fail
  refine (iHaveAccounts _ z u.heap.size 2 2 [fa, fb] b0 (unhide S1).r (unhide LI).1 rfl (by omega) (by simp) (at_new _ [fa, fb] _ rfl rfl) (unhide H0)).mono ?_
  rintro e w1 ⟨rfl, bb⟩
  have S2 := hide ((unhide S1).step bb)
  clear bb d0 d1 d2 d3 d4 d5
  cases b0
  · have NZ := hide (show kindOf z.b.ac fa = 0 ∨ kindOf z.b.ac fb = 0 ∨ kindOf z.b.ic fi = 0 from by
      have := (unhide H0).no
      simp only [List.mem_cons, List.not_mem_nil, or_false, forall_eq_or_imp, forall_eq] at this
      omega)
    go_wp2
    go_ret
    exact ⟨z.b, 3, .inl ⟨unhide NZ, rfl, rfl⟩, rfl, .inr ⟨by omega, Var.any (unhide S2).v⟩, (unhide S2).grown⟩
  have d0 := (unhide S2).v.c0
  have d1 := (unhide S2).v.c1
  have d2 := (unhide S2).v.c2
  have d3 := (unhide S2).v.c3
  have d4 := (unhide S2).v.c4
  have d5 := (unhide S2).v.c5
  have S3 := hide ((unhide S2).step (one_more w1 (.cells #[.int .i64 fi] 3)))
  go_wp2_with fail
  refine (iHaveInstrs _ z w1.heap.size 1 1 [fi] b1 (unhide S3).r (unhide LI).2.1 rfl (by omega) (by simp) (at_new _ [fi] _ rfl rfl) (unhide H1)).mono ?_
  rintro e w2 ⟨rfl, bb⟩
  have S4 := hide ((unhide S3).step bb)
  clear bb d0 d1 d2 d3 d4 d5 S3 S1
  cases b1
  · have NZ := hide (show kindOf z.b.ac fa = 0 ∨ kindOf z.b.ac fb = 0 ∨ kindOf z.b.ic fi = 0 from by
      have := (unhide H1).no
      simp only [List.mem_cons, List.not_mem_nil, or_false, forall_eq_or_imp, forall_eq] at this
      omega)
    go_wp2
    go_ret
    exact ⟨z.b, 3, .inl ⟨unhide NZ, rfl, rfl⟩, rfl, .inr ⟨by omega, Var.any (unhide S4).v⟩, (unhide S4).grown⟩
  have NZ := hide (show ¬ (kindOf z.b.ac fa = 0 ∨ kindOf z.b.ac fb = 0 ∨ kindOf z.b.ic fi = 0) from by
    have a := (unhide H0).yes
    have b := (unhide H1).yes
    simp only [List.mem_cons, List.not_mem_nil, or_false, forall_eq_or_imp, forall_eq] at a b
    omega)
  clear H0 H1 S2
  have d0 := (unhide S4).v.c0
  have d1 := (unhide S4).v.c1
  have d2 := (unhide S4).v.c2
  have d3 := (unhide S4).v.c3
  have d4 := (unhide S4).v.c4
  have d5 := (unhide S4).v.c5
  go_wp2_with fail
  refine (IRead9.iIssuer _ z fa t5 (unhide S4).r (unhide LI).1 (unhide H5)).mono ?_
  rintro e w3 ⟨rfl, bb⟩
  have S5 := hide ((unhide S4).step bb)
  clear bb d0 d1 d2 d3 d4 d5 S4
  cases t5
  · have IZ := hide (show IsIssue z.b fa fb fi fq fk z.b 4 from .inr (.inl ⟨unhide NZ, .inl (unhide H5).no, rfl, rfl⟩))
    go_wp2
    go_ret
    exact ⟨z.b, 4, unhide IZ, rfl, .inr ⟨by omega, Var.any (unhide S5).v⟩, (unhide S5).grown⟩
  have KA := hide (unhide H5).yes
  clear H5
  have d0 := (unhide S5).v.c0
  have d1 := (unhide S5).v.c1
  have d2 := (unhide S5).v.c2
  have d3 := (unhide S5).v.c3
  have d4 := (unhide S5).v.c4
  have d5 := (unhide S5).v.c5
  go_wp2_with fail
  refine (IRead.iHolder _ z fb t2 (unhide S5).r (unhide LI).1 (unhide H2)).mono ?_
  rintro e w4 ⟨rfl, bb⟩
  have S6 := hide ((unhide S5).step bb)
  clear bb d0 d1 d2 d3 d4 d5 S5
  cases t2
  · have IZ := hide (show IsIssue z.b fa fb fi fq fk z.b 4 from .inr (.inl ⟨unhide NZ, .inr (.inl (unhide H2).no), rfl, rfl⟩))
    go_wp2
    go_ret
    exact ⟨z.b, 4, unhide IZ, rfl, .inr ⟨by omega, Var.any (unhide S6).v⟩, (unhide S6).grown⟩
  have KB := hide (unhide H2).yes
  clear H2
  have d0 := (unhide S6).v.c0
  have d1 := (unhide S6).v.c1
  have d2 := (unhide S6).v.c2
  have d3 := (unhide S6).v.c3
  have d4 := (unhide S6).v.c4
  have d5 := (unhide S6).v.c5
  by_cases k0 : fk = 0
  · have k0b : (fk != 0) = false := ne_false k0
    have NK := hide (show ¬ (kindOf z.b.ac fa ≠ 2 ∨ kindOf z.b.ac fb ≠ 1 ∨ (fk ≠ 0 ∧ kindOf z.b.ic fi = 1)) from by
      have a := unhide KA
      have b := unhide KB
      omega)
    clear k0 KA KB
    go_wp2_with fail
    refine (Shorts.iGiven _ fa fb fi fq (unhide TT).2.2.2.2.1.1 (unhide TT).2.2.2.2.1.2).mono ?_
    rintro e w6 ⟨gL, rfl, hgL, aL, bb⟩
    have S8 := hide ((unhide S6).step bb)
    have AL := hide aL
    clear bb aL
    go_wp2_with fail
    refine (IPostB.iPost w6 z base g gL 2 (pairL fa fb fi fq) (unhide LI) (unhide SM) (unhide S8).v (unhide S8).o hg (by simp [pairL]) hgL (unhide AL) (pair_formed (unhide TT).2.1 (unhide TT).2.2.1 (unhide TT).2.2.2.1 (unhide TT).2.2.2.2.1.1 (unhide TT).2.2.2.2.1.2) (pair_even _ _ _ _)).mono ?_
    rintro e w7 ⟨y, c1, hp, rfl, v1, o1, gr⟩
    have HP := hide hp
    have V1 := hide v1
    have O1 := hide o1
    have GR := hide (Pairs.grown_trans (unhide S8).grown gr)
    have SY := hide (posted_small hp (unhide SM))
    have PL := hide (posted_lot hp)
    clear hp v1 o1 gr AL hgL S8
    by_cases z1 : c1 = 0
    rotate_left
    · have z1b : (c1 != 0) = true := ne_true z1
      have HN := hide z1
      clear z1
      go_wp2
      go_ret
      exact ⟨z.b, c1, .inr (.inr ⟨unhide NZ, unhide NK, y.b, c1, unhide HP, .inl ⟨unhide HN, rfl, rfl⟩⟩), rfl, .inr ⟨unhide HN, Var.any (unhide V1)⟩, unhide GR⟩
    subst z1
    obtain ⟨t4, h4⟩ := says_of (kindOf y.b.ic fi = 1)
    have H4 := hide h4
    have D0 := hide (DW.start (unhide V1) (unhide O1) (unhide SY))
    have d0 := (unhide D0).v.c0
    have d1 := (unhide D0).v.c1
    have d2 := (unhide D0).v.c2
    have d3 := (unhide D0).v.c3
    have d4 := (unhide D0).v.c4
    have d5 := (unhide D0).v.c5
    clear h4 V1 O1
    go_wp2_with fail
    refine (IRead.iCash _ y fi t4 (unhide D0).r (by rw [(unhide PL).2.2.2]; exact (unhide LI).2.1) (unhide H4)).mono ?_
    rintro e w8 ⟨rfl, bb⟩
    have D1 := hide ((unhide D0).step bb)
    clear bb d0 d1 d2 d3 d4 d5 D0
    cases t4
    rotate_left
    · have KI := hide (show kindOf z.b.ic fi = 1 from by have := (unhide H4).yes; rw [(unhide PL).2.2.2] at this; exact this)
      go_wp2
      go_ret
      exact ⟨y.b, 0, .inr (.inr ⟨unhide NZ, unhide NK, y.b, 0, unhide HP, .inr (.inl ⟨rfl, unhide KI, rfl, rfl⟩)⟩), rfl, .inl ⟨rfl, y, rfl, (unhide D1).v, (unhide D1).o⟩, Pairs.grown_trans (unhide GR) (unhide D1).grown⟩
    have KN := hide (show kindOf z.b.ic fi ≠ 1 from by have := (unhide H4).no; rw [(unhide PL).2.2.2] at this; exact this)
    go_wp2_with fail
    refine (IOpenBk.iOpenBk w8 y _ base g fb fi fq fk (by rw [(unhide PL).1]; exact (unhide LI).2.2.2.2.2) (unhide SY).2.2.2.1 (unhide D1).v (OwL.of (unhide D1).o) hg).mono ?_
    rintro e w9 ⟨b2, c2, ho, rfl, hz, gr⟩
    have HO := hide ho
    have HZ := hide hz
    have G2 := hide (Pairs.grown_trans (Pairs.grown_trans (unhide GR) (unhide D1).grown) gr)
    clear ho hz gr
    go_wp2
    go_ret
    rcases unhide HZ with ⟨rfl, y2, hy, v2, o2⟩ | ⟨hne, ab⟩
    · exact ⟨b2, 0, .inr (.inr ⟨unhide NZ, unhide NK, y.b, 0, unhide HP, .inr (.inr ⟨rfl, unhide KN, b2, 0, unhide HO, .inr ⟨rfl, rfl, rfl⟩⟩)⟩), rfl, .inl ⟨rfl, y2, hy, v2, o2⟩, unhide G2⟩
    · exact ⟨z.b, c2, .inr (.inr ⟨unhide NZ, unhide NK, y.b, 0, unhide HP, .inr (.inr ⟨rfl, unhide KN, b2, c2, unhide HO, .inl ⟨hne, rfl, rfl⟩⟩)⟩), rfl, .inr ⟨hne, ab⟩, unhide G2⟩
  · have k0b : (fk != 0) = true := ne_true k0
    go_wp2_with fail
    refine (IRead.iCash _ z fi t3 (unhide S6).r (unhide LI).2.1 (unhide H3)).mono ?_
    rintro e w5 ⟨rfl, bb⟩
    have S7 := hide ((unhide S6).step bb)
    clear bb d0 d1 d2 d3 d4 d5 S6
    cases t3
    · have NK := hide (show ¬ (kindOf z.b.ac fa ≠ 2 ∨ kindOf z.b.ac fb ≠ 1 ∨ (fk ≠ 0 ∧ kindOf z.b.ic fi = 1)) from by
        have a := unhide KA
        have b := unhide KB
        have c := (unhide H3).no
        omega)
      clear k0 KA KB
      go_wp2_with fail
      refine (Shorts.iGiven _ fa fb fi fq (unhide TT).2.2.2.2.1.1 (unhide TT).2.2.2.2.1.2).mono ?_
      rintro e w6 ⟨gL, rfl, hgL, aL, bb⟩
      have S8 := hide ((unhide S7).step bb)
      have AL := hide aL
      clear bb aL
      go_wp2_with fail
      refine (IPostB.iPost w6 z base g gL 2 (pairL fa fb fi fq) (unhide LI) (unhide SM) (unhide S8).v (unhide S8).o hg (by simp [pairL]) hgL (unhide AL) (pair_formed (unhide TT).2.1 (unhide TT).2.2.1 (unhide TT).2.2.2.1 (unhide TT).2.2.2.2.1.1 (unhide TT).2.2.2.2.1.2) (pair_even _ _ _ _)).mono ?_
      rintro e w7 ⟨y, c1, hp, rfl, v1, o1, gr⟩
      have HP := hide hp
      have V1 := hide v1
      have O1 := hide o1
      have GR := hide (Pairs.grown_trans (unhide S8).grown gr)
      have SY := hide (posted_small hp (unhide SM))
      have PL := hide (posted_lot hp)
      clear hp v1 o1 gr AL hgL S8
      by_cases z1 : c1 = 0
      rotate_left
      · have z1b : (c1 != 0) = true := ne_true z1
        have HN := hide z1
        clear z1
        go_wp2
        go_ret
        exact ⟨z.b, c1, .inr (.inr ⟨unhide NZ, unhide NK, y.b, c1, unhide HP, .inl ⟨unhide HN, rfl, rfl⟩⟩), rfl, .inr ⟨unhide HN, Var.any (unhide V1)⟩, unhide GR⟩
      subst z1
      obtain ⟨t4, h4⟩ := says_of (kindOf y.b.ic fi = 1)
      have H4 := hide h4
      have D0 := hide (DW.start (unhide V1) (unhide O1) (unhide SY))
      have d0 := (unhide D0).v.c0
      have d1 := (unhide D0).v.c1
      have d2 := (unhide D0).v.c2
      have d3 := (unhide D0).v.c3
      have d4 := (unhide D0).v.c4
      have d5 := (unhide D0).v.c5
      clear h4 V1 O1
      go_wp2_with fail
      refine (IRead.iCash _ y fi t4 (unhide D0).r (by rw [(unhide PL).2.2.2]; exact (unhide LI).2.1) (unhide H4)).mono ?_
      rintro e w8 ⟨rfl, bb⟩
      have D1 := hide ((unhide D0).step bb)
      clear bb d0 d1 d2 d3 d4 d5 D0
      cases t4
      rotate_left
      · have KI := hide (show kindOf z.b.ic fi = 1 from by have := (unhide H4).yes; rw [(unhide PL).2.2.2] at this; exact this)
        go_wp2
        go_ret
        exact ⟨y.b, 0, .inr (.inr ⟨unhide NZ, unhide NK, y.b, 0, unhide HP, .inr (.inl ⟨rfl, unhide KI, rfl, rfl⟩)⟩), rfl, .inl ⟨rfl, y, rfl, (unhide D1).v, (unhide D1).o⟩, Pairs.grown_trans (unhide GR) (unhide D1).grown⟩
      have KN := hide (show kindOf z.b.ic fi ≠ 1 from by have := (unhide H4).no; rw [(unhide PL).2.2.2] at this; exact this)
      go_wp2_with fail
      refine (IOpenBk.iOpenBk w8 y _ base g fb fi fq fk (by rw [(unhide PL).1]; exact (unhide LI).2.2.2.2.2) (unhide SY).2.2.2.1 (unhide D1).v (OwL.of (unhide D1).o) hg).mono ?_
      rintro e w9 ⟨b2, c2, ho, rfl, hz, gr⟩
      have HO := hide ho
      have HZ := hide hz
      have G2 := hide (Pairs.grown_trans (Pairs.grown_trans (unhide GR) (unhide D1).grown) gr)
      clear ho hz gr
      go_wp2
      go_ret
      rcases unhide HZ with ⟨rfl, y2, hy, v2, o2⟩ | ⟨hne, ab⟩
      · exact ⟨b2, 0, .inr (.inr ⟨unhide NZ, unhide NK, y.b, 0, unhide HP, .inr (.inr ⟨rfl, unhide KN, b2, 0, unhide HO, .inr ⟨rfl, rfl, rfl⟩⟩)⟩), rfl, .inl ⟨rfl, y2, hy, v2, o2⟩, unhide G2⟩
      · exact ⟨z.b, c2, .inr (.inr ⟨unhide NZ, unhide NK, y.b, 0, unhide HP, .inr (.inr ⟨rfl, unhide KN, b2, c2, unhide HO, .inl ⟨hne, rfl, rfl⟩⟩)⟩), rfl, .inr ⟨hne, ab⟩, unhide G2⟩
    · have IZ := hide (show IsIssue z.b fa fb fi fq fk z.b 4 from .inr (.inl ⟨unhide NZ, .inr (.inr ⟨k0, (unhide H3).yes⟩), rfl, rfl⟩))
      clear k0
      go_wp2
      go_ret
      exact ⟨z.b, 4, unhide IZ, rfl, .inr ⟨by omega, Var.any (unhide S7).v⟩, (unhide S7).grown⟩
set_option maxRecDepth 100000 in
theorem iClosure (u : World) (z : Bx) (base g : Nat) (p1 p2 p3 p4 p5 : Addr) (fa fb fi fq fk : Int) (h1 : u.cell? p1 = some (.int .i64 fa)) (h2 : u.cell? p2 = some (.int .i64 fb)) (h3 : u.cell? p3 = some (.int .i64 fi)) (h4 : u.cell? p4 = some (.int .i64 fq)) (h5 : u.cell? p5 = some (.int .i64 fk)) (told : ToldI z.b fa fb fi fq fk) (V : Var u base g z) (O : Ow u (base + 4) z) (hg : g < base + 4) :
    Calls Tryz.prog 33 #[.pointer (some ⟨g, 0, none⟩), .pointer (some p1), .pointer (some p2), .pointer (some p3), .pointer (some p4), .pointer (some p5)] u (Does (fun b' t c => t = 0 ∧ IsIssue z.b fa fb fi fq fk b' c) base g u) := by
  have V1 := hide V
  have O1 := hide O
  have TT := hide told
  clear V O told
  go_enter Tryz.func33, Tryz.ntmps33
  go_wp2_with fail
  refine (iIssue u z base g fa fb fi fq fk (unhide TT) (unhide V1) (unhide O1) hg).mono ?_
  rintro e u' ⟨b', c, hI, rfl, hz, gr⟩
  have HI := hide hI
  have HZ := hide hz
  have GR := hide gr
  clear hI hz gr
  go_wp2
  go_ret2
  exact ⟨b', 0, c, ⟨rfl, unhide HI⟩, rfl, unhide HZ, unhide GR⟩
end Go.Proofs.YteccbaohfmhnfaaGreat.IIssue
namespace Go.Proofs.YteccbaohfmhnfaaGreat.IssueTellI
open Go.ChangeShapes Go.WideShapes Go.ChangeAt Go.RowKit BMem Bks ILists BHelp Ans ICopied ICmdB IHave
open SIssue (ToldI six_alloc ow_six_alloc box_six_alloc to_wb off_box)
open IBalsFit (one_more all_one)
open ITrade (at_new)
open Lots (Says says_of NoOk)
theorem says_and {a b : Bool} {p q : Prop} (h : Says a p) (k : Says b q) : Says (a && b) (p ∧ q) := by
  cases a <;> cases b
  · exact ⟨fun e => Bool.noConfusion e, fun r => absurd r.1 h.no⟩
  · exact ⟨fun e => Bool.noConfusion e, fun r => absurd r.1 h.no⟩
  · exact ⟨fun e => Bool.noConfusion e, fun r => absurd r.2 k.no⟩
  · exact ⟨fun _ => ⟨h.yes, k.yes⟩, fun _ => rfl⟩
/-- The books that were handed in, the five numbers, and the answer's variable behind them. -/
structure TW (w W : World) (x : Bx) (fa fb fi fq fk : Int) : Prop where
  r : Rd W x
  c : Cl W w.heap.size x
  n1 : W.cell? ⟨w.heap.size + 1, 0, none⟩ = some (.int .i64 fa)
  n2 : W.cell? ⟨w.heap.size + 1 + 1, 0, none⟩ = some (.int .i64 fb)
  n3 : W.cell? ⟨w.heap.size + 1 + 1 + 1, 0, none⟩ = some (.int .i64 fi)
  n4 : W.cell? ⟨w.heap.size + 1 + 1 + 1 + 1, 0, none⟩ = some (.int .i64 fq)
  n5 : W.cell? ⟨w.heap.size + 1 + 1 + 1 + 1 + 1, 0, none⟩ = some (.int .i64 fk)
  v : Box W w.heap.size (w.heap.size + 1 + 1 + 1 + 1 + 1 + 1) (.slice none 0 0) (.slice none 0 0) (.slice none 0 0) (.slice none 0 0) (.slice none 0 0) (.int .i64 0)
  b : Below w.heap.size w W
theorem TW.step {w W W' : World} {x : Bx} {fa fb fi fq fk : Int} (h : TW w W x fa fb fi fq fk) (k : Below W.heap.size W W') : TW w W' x fa fb fi fq fk := by
  have l := h.v.lt
  exact ⟨h.r.below k, h.c.below k (by omega), (k.cell (p := ⟨w.heap.size + 1, 0, none⟩) (by simp <;> omega)).trans h.n1, (k.cell (p := ⟨w.heap.size + 1 + 1, 0, none⟩) (by simp <;> omega)).trans h.n2, (k.cell (p := ⟨w.heap.size + 1 + 1 + 1, 0, none⟩) (by simp <;> omega)).trans h.n3, (k.cell (p := ⟨w.heap.size + 1 + 1 + 1 + 1, 0, none⟩) (by simp <;> omega)).trans h.n4, (k.cell (p := ⟨w.heap.size + 1 + 1 + 1 + 1 + 1, 0, none⟩) (by simp <;> omega)).trans h.n5, h.v.below k (by omega), h.b.trans (k.mono h.b.size)⟩
theorem more {w : World} {p : Addr} {v : Value} (h : w.cell? p = some v) (hp : p.block < w.heap.size) (o : Obj) : (w.alloc o).cell? p = some v := ((one_more _ _).cell hp).trans h
theorem TW.start {w : World} {x : Bx} {fa fb fi fq fk : Int} (h : Rd w x) : TW w (((((((w.alloc (.cells #[.slice (some ⟨x.ga, 0, none⟩) x.b.ac.length x.ca, .slice (some ⟨x.gi, 0, none⟩) x.b.ic.length x.ci, .slice (some ⟨x.gb, 0, none⟩) x.b.bs.length x.cb, .slice (some ⟨x.gl, 0, none⟩) x.b.ls.length x.cl, .slice (some ⟨x.gt, 0, none⟩) x.b.ts.length x.ct, .int .i64 x.b.lot] 36)).alloc (.cells #[.int .i64 fa] 3)).alloc (.cells #[.int .i64 fb] 3)).alloc (.cells #[.int .i64 fi] 3)).alloc (.cells #[.int .i64 fq] 3)).alloc (.cells #[.int .i64 fk] 3)).alloc (.cells #[.slice none 0 0, .slice none 0 0, .slice none 0 0, .slice none 0 0, .slice none 0 0, .int .i64 0] 36)) x fa fb fi fq fk := by
  have b : Below (w.heap.size + 1) (w.alloc (.cells #[.slice (some ⟨x.ga, 0, none⟩) x.b.ac.length x.ca, .slice (some ⟨x.gi, 0, none⟩) x.b.ic.length x.ci, .slice (some ⟨x.gb, 0, none⟩) x.b.bs.length x.cb, .slice (some ⟨x.gl, 0, none⟩) x.b.ls.length x.cl, .slice (some ⟨x.gt, 0, none⟩) x.b.ts.length x.ct, .int .i64 x.b.lot] 36)) (((((((w.alloc (.cells #[.slice (some ⟨x.ga, 0, none⟩) x.b.ac.length x.ca, .slice (some ⟨x.gi, 0, none⟩) x.b.ic.length x.ci, .slice (some ⟨x.gb, 0, none⟩) x.b.bs.length x.cb, .slice (some ⟨x.gl, 0, none⟩) x.b.ls.length x.cl, .slice (some ⟨x.gt, 0, none⟩) x.b.ts.length x.ct, .int .i64 x.b.lot] 36)).alloc (.cells #[.int .i64 fa] 3)).alloc (.cells #[.int .i64 fb] 3)).alloc (.cells #[.int .i64 fi] 3)).alloc (.cells #[.int .i64 fq] 3)).alloc (.cells #[.int .i64 fk] 3)).alloc (.cells #[.slice none 0 0, .slice none 0 0, .slice none 0 0, .slice none 0 0, .slice none 0 0, .int .i64 0] 36)) :=
    ((((((Below.refl _ _).alloc (by simp) _).alloc (by simp) _).alloc (by simp <;> omega) _).alloc (by simp <;> omega) _).alloc (by simp <;> omega) _).alloc (by simp <;> omega) _
  refine ⟨h.below (((Below.refl w.heap.size w).alloc (Nat.le_refl _) _).trans (b.mono (by omega))), (boxed w x 36).below b (by omega), ?_, ?_, ?_, ?_, ?_, Box.made _ _ _ _ _ _ (by simp <;> omega) (by simp), ((Below.refl w.heap.size w).alloc (Nat.le_refl _) _).trans (b.mono (by omega))⟩
  · exact more (more (more (more (more (cell_new _ _ _ (by simp)) (by simp) _) (by simp <;> omega) _) (by simp <;> omega) _) (by simp <;> omega) _) (by simp <;> omega) _
  · exact more (more (more (more (cell_new _ _ _ (by simp)) (by simp) _) (by simp <;> omega) _) (by simp <;> omega) _) (by simp <;> omega) _
  · exact more (more (more (cell_new _ _ _ (by simp)) (by simp) _) (by simp <;> omega) _) (by simp <;> omega) _
  · exact more (more (cell_new _ _ _ (by simp)) (by simp) _) (by simp <;> omega) _
  · exact more (cell_new _ _ _ (by simp)) (by simp) _
theorem is_same {b b' : Bk} {fa fb fi fq fk c : Int} (h : IsIssue b fa fb fi fq fk b' c) (hc : c ≠ 0) : IsIssue b fa fb fi fq fk b c := by
  rcases h with ⟨h, rfl, rfl⟩ | ⟨h, k, rfl, rfl⟩ | ⟨h, k, b1, c1, hp, ⟨h1, rfl, rfl⟩ | ⟨h1, h2, rfl, rfl⟩ | ⟨h1, h2, b2, c2, ho, ⟨h3, rfl, rfl⟩ | ⟨h3, rfl, rfl⟩⟩⟩
  · exact .inl ⟨h, rfl, rfl⟩
  · exact .inr (.inl ⟨h, k, rfl, rfl⟩)
  · exact .inr (.inr ⟨h, k, b1, _, hp, .inl ⟨h1, rfl, rfl⟩⟩)
  · exact absurd rfl hc
  · exact .inr (.inr ⟨h, k, b1, c1, hp, .inr (.inr ⟨h1, h2, b2, _, ho, .inl ⟨h3, rfl, rfl⟩⟩)⟩)
  · exact absurd rfl hc
set_option maxRecDepth 100000 in
set_option maxHeartbeats 8000000 in
theorem iTell (w : World) (x : Bx) (fa fb fi fq fk : Int) (h : Rd w x) :
    Calls Tryz.prog 7 #[.agg #[.slice (some ⟨x.ga, 0, none⟩) x.b.ac.length x.ca, .slice (some ⟨x.gi, 0, none⟩) x.b.ic.length x.ci, .slice (some ⟨x.gb, 0, none⟩) x.b.bs.length x.cb, .slice (some ⟨x.gl, 0, none⟩) x.b.ls.length x.cl, .slice (some ⟨x.gt, 0, none⟩) x.b.ts.length x.ct, .int .i64 x.b.lot], .int .i64 fa, .int .i64 fb, .int .i64 fi, .int .i64 fq, .int .i64 fk] w (AnsB (ToldI x.b fa fb fi fq fk) (IsIssue x.b fa fb fi fq fk) w) := by
  obtain ⟨b1, h1⟩ := says_of (∀ y ∈ [fa, fb, fi], NoOk y)
  obtain ⟨b2, h2⟩ := says_of (1 ≤ fq ∧ fq ≤ 1000000000000000)
  obtain ⟨b3, h3⟩ := says_of (0 ≤ fk ∧ fk ≤ 1000000000000000)
  have HT := hide (show Says (b1 && (b2 && b3)) (NoOk fa ∧ NoOk fb ∧ NoOk fi ∧ (1 ≤ fq ∧ fq ≤ 1000000000000000) ∧ (0 ≤ fk ∧ fk ≤ 1000000000000000)) from by
    have a := IssueTellI.says_and h1 (IssueTellI.says_and h2 h3)
    refine ⟨fun e => ?_, fun r => a.of ⟨?_, r.2.2.2.1, r.2.2.2.2⟩⟩
    · have := a.1 e
      exact ⟨this.1 fa (by simp), this.1 fb (by simp), this.1 fi (by simp), this.2.1, this.2.2⟩
    · intro y hy
      simp only [List.mem_cons, List.not_mem_nil, or_false] at hy
      rcases hy with rfl | rfl | rfl
      · exact r.1
      · exact r.2.1
      · exact r.2.2.1)
  have H1 := hide h1
  have H2 := hide h2
  have H3 := hide h3
  have S0 := hide (IssueTellI.TW.start (fa := fa) (fb := fb) (fi := fi) (fq := fq) (fk := fk) h)
  clear h1 h2 h3 h
  go_enter Tryz.func7, Tryz.ntmps7
  go_wp2_with fail
  have S1 := hide ((unhide S0).step (one_more _ (.cells #[.int .i64 fa, .int .i64 fb, .int .i64 fi] 3)))
  refine (iNumbers _ (w.heap.size + 1 + 1 + 1 + 1 + 1 + 1 + 1) 3 3 [fa, fb, fi] b1 rfl (by omega) (by simp) (at_new _ [fa, fb, fi] _ (by simp) rfl) (unhide H1)).mono ?_
  rintro e w1 ⟨rfl, bb⟩
  have S2 := hide ((unhide S1).step bb)
  clear bb S1 S0
  obtain ⟨c0, c1, c2, c3, c4, c5⟩ := (unhide S2).c
  have n1 := (unhide S2).n1
  have n2 := (unhide S2).n2
  have n3 := (unhide S2).n3
  have n4 := (unhide S2).n4
  have n5 := (unhide S2).n5
  have hmf : ∀ (fn : Fn) (first cp : Array Value) (w : World), (Instr.makeFunc fn first cp).run Tryz.prog w = .ok (.func fn first cp) w := fun _ _ _ _ => rfl
  have HF := hide (show Ok x.b → (NoOk fa ∧ NoOk fb ∧ NoOk fi ∧ (1 ≤ fq ∧ fq ≤ 1000000000000000) ∧ (0 ≤ fk ∧ fk ≤ 1000000000000000)) → ∀ (u : World) (z : Bx), z.b = x.b → Var u w1.heap.size (w1.heap.size + 1) z → Ow u (w1.heap.size + 4) z → Below w1.heap.size w1 u → Calls Tryz.prog 33 (#[.pointer (some ⟨w1.heap.size + 1, 0, none⟩)] ++ #[.pointer (some ⟨w.heap.size + 1, 0, none⟩), .pointer (some ⟨w.heap.size + 1 + 1, 0, none⟩), .pointer (some ⟨w.heap.size + 1 + 1 + 1, 0, none⟩), .pointer (some ⟨w.heap.size + 1 + 1 + 1 + 1, 0, none⟩), .pointer (some ⟨w.heap.size + 1 + 1 + 1 + 1 + 1, 0, none⟩)]) u (Does (fun b' t c => t = 0 ∧ IsIssue x.b fa fb fi fq fk b' c) w1.heap.size (w1.heap.size + 1) u) from by
    intro ok ta u z hz V O bb
    have l := (unhide S2).v.lt
    have q := IIssue.iClosure u z w1.heap.size (w1.heap.size + 1) ⟨w.heap.size + 1, 0, none⟩ ⟨w.heap.size + 1 + 1, 0, none⟩ ⟨w.heap.size + 1 + 1 + 1, 0, none⟩ ⟨w.heap.size + 1 + 1 + 1 + 1, 0, none⟩ ⟨w.heap.size + 1 + 1 + 1 + 1 + 1, 0, none⟩ fa fb fi fq fk ((bb.cell (p := ⟨w.heap.size + 1, 0, none⟩) (by simp <;> omega)).trans n1) ((bb.cell (p := ⟨w.heap.size + 1 + 1, 0, none⟩) (by simp <;> omega)).trans n2) ((bb.cell (p := ⟨w.heap.size + 1 + 1 + 1, 0, none⟩) (by simp <;> omega)).trans n3) ((bb.cell (p := ⟨w.heap.size + 1 + 1 + 1 + 1, 0, none⟩) (by simp <;> omega)).trans n4) ((bb.cell (p := ⟨w.heap.size + 1 + 1 + 1 + 1 + 1, 0, none⟩) (by simp <;> omega)).trans n5) (by rw [hz]; exact ⟨ok, ta⟩) V O (by omega)
    rw [hz] at q
    exact q)
  cases b1
  rotate_left
  go_wp2_with fail
  refine (IHave.iFrom 1 fq b2 _ (unhide H2)).mono ?_
  rintro e v1 ⟨rfl, hv⟩
  rw [hv]
  clear hv
  cases b2
  rotate_left
  go_wp2_with fail
  refine (IHave.iFrom 0 fk b3 _ (unhide H3)).mono ?_
  rintro e v2 ⟨rfl, hv⟩
  rw [hv]
  clear hv
  cases b3
  all_goals
    (clear H1 H2 H3
     go_wp2_with fail
     refine (ICmd.iCmd _ x _ (NoOk fa ∧ NoOk fb ∧ NoOk fi ∧ (1 ≤ fq ∧ fq ≤ 1000000000000000) ∧ (0 ≤ fk ∧ fk ≤ 1000000000000000)) 33 _ (fun b' t c => t = 0 ∧ IsIssue x.b fa fb fi fq fk b' c) (unhide S2).r (unhide HT) (fun _ _ => rfl) (unhide HF)).mono ?_
     clear HF HT
     rintro e w3 (⟨N, rfl, bb⟩ | ⟨T, b', t, c, z, hP, hz, oz, bb⟩)
     · have S3 := hide ((unhide S2).step bb)
       have NN := hide (show ¬ (ToldI x.b fa fb fi fq fk) from fun hh => N ⟨hh.2, hh.1⟩)
       have l : w.heap.size + 1 + 1 + 1 + 1 + 1 + 1 < w1.heap.size := (unhide S2).v.lt.2
       have l3 : w.heap.size + 1 + 1 + 1 + 1 + 1 + 1 < w3.heap.size := (unhide S3).v.lt.2
       have l4 : w.heap.size + 1 + 1 + 1 + 1 + 1 + 1 ≠ w3.heap.size := by omega
       clear bb c0 c1 c2 c3 c4 c5 n1 n2 n3 n4 n5 N
       have r0 := (unhide S3).v.c0
       have r1 := (unhide S3).v.c1
       have r2 := (unhide S3).v.c2
       have r3 := (unhide S3).v.c3
       have r4 := (unhide S3).v.c4
       have r5 := (unhide S3).v.c5
       have f0 := (unhide S3).v.free 0
       have f1 := (unhide S3).v.free 1
       have f2 := (unhide S3).v.free 2
       have f3 := (unhide S3).v.free 3
       have f4 := (unhide S3).v.free 4
       have f5 := (unhide S3).v.free 5
       go_wp2
       refine to_wb (fun W => Box W w.heap.size (w.heap.size + 1 + 1 + 1 + 1 + 1 + 1) (.slice none 0 0) (.slice none 0 0) (.slice none 0 0) (.slice none 0 0) (.slice none 0 0) (.int .i64 0) ∧ Below w.heap.size w W) ?_ ?_
       · exact ⟨box_six_alloc (unhide S3).v _ _ _ _ _ _ _, six_alloc (unhide S3).b (unhide S3).b.size (by omega) _ _ _ _ _ _ _⟩
       rintro W ⟨X, B⟩
       have g0 := X.c0
       have g1 := X.c1
       have g2 := X.c2
       have g3 := X.c3
       have g4 := X.c4
       have g5 := X.c5
       exact bodyPost_ret (v := .tuple #[.agg #[.slice none 0 0, .slice none 0 0, .slice none 0 0, .slice none 0 0, .slice none 0 0, .int .i64 0], .int .i64 1]) (by simp [results, Tryz.results7, go_sem, g0, g1, g2, g3, g4, g5]) rfl (.inl ⟨unhide NN, rfl, B⟩)
     · have S3 := hide ((unhide S2).step bb)
       have TT := hide (show ToldI x.b fa fb fi fq fk from ⟨T.2, T.1⟩)
       have l : w.heap.size + 1 + 1 + 1 + 1 + 1 + 1 < w1.heap.size := (unhide S2).v.lt.2
       have l3 : w.heap.size + 1 + 1 + 1 + 1 + 1 + 1 < w3.heap.size := (unhide S3).v.lt.2
       have l4 : w.heap.size + 1 + 1 + 1 + 1 + 1 + 1 ≠ w3.heap.size := by omega
       have OZ := hide oz
       have LZ := hide (ow_lo oz)
       have HP := hide hP
       clear bb c0 c1 c2 c3 c4 c5 n1 n2 n3 n4 n5 T oz hP
       have r0 := (unhide S3).v.c0
       have r1 := (unhide S3).v.c1
       have r2 := (unhide S3).v.c2
       have r3 := (unhide S3).v.c3
       have r4 := (unhide S3).v.c4
       have r5 := (unhide S3).v.c5
       have f0 := (unhide S3).v.free 0
       have f1 := (unhide S3).v.free 1
       have f2 := (unhide S3).v.free 2
       have f3 := (unhide S3).v.free 3
       have f4 := (unhide S3).v.free 4
       have f5 := (unhide S3).v.free 5
       rcases hz with ⟨q, hb, rfl⟩ | ⟨q, hb, rfl⟩
       · have IS := hide (show IsIssue x.b fa fb fi fq fk z.b c from by rw [hb]; exact (unhide HP).2)
         clear q hb HP
         go_wp2
         refine to_wb (fun W => Box W w.heap.size (w.heap.size + 1 + 1 + 1 + 1 + 1 + 1) (.slice (some ⟨z.ga, 0, none⟩) z.b.ac.length z.ca) (.slice (some ⟨z.gi, 0, none⟩) z.b.ic.length z.ci) (.slice (some ⟨z.gb, 0, none⟩) z.b.bs.length z.cb) (.slice (some ⟨z.gl, 0, none⟩) z.b.ls.length z.cl) (.slice (some ⟨z.gt, 0, none⟩) z.b.ts.length z.ct) (.int .i64 z.b.lot) ∧ Below w.heap.size w W ∧ Ow W w.heap.size z) ?_ ?_
         · exact ⟨box_six_alloc (unhide S3).v _ _ _ _ _ _ _, six_alloc (unhide S3).b (unhide S3).b.size (by omega) _ _ _ _ _ _ _, ow_six_alloc (unhide OZ) (off_lo (unhide LZ) l) (unhide S2).b.size _ _ _ _ _ _ _⟩
         rintro W ⟨X, B, OW⟩
         have g0 := X.c0
         have g1 := X.c1
         have g2 := X.c2
         have g3 := X.c3
         have g4 := X.c4
         have g5 := X.c5
         exact bodyPost_ret (v := .tuple #[.agg #[.slice (some ⟨z.ga, 0, none⟩) z.b.ac.length z.ca, .slice (some ⟨z.gi, 0, none⟩) z.b.ic.length z.ci, .slice (some ⟨z.gb, 0, none⟩) z.b.bs.length z.cb, .slice (some ⟨z.gl, 0, none⟩) z.b.ls.length z.cl, .slice (some ⟨z.gt, 0, none⟩) z.b.ts.length z.ct, .int .i64 z.b.lot], .int .i64 c]) (by simp [results, Tryz.results7, go_sem, g0, g1, g2, g3, g4, g5]) rfl (.inr ⟨unhide TT, z, c, unhide IS, rfl, OW, B⟩)
       · have IS := hide (show IsIssue x.b fa fb fi fq fk z.b c from by rw [hb]; exact is_same (unhide HP).2 q)
         clear q hb HP
         go_wp2
         refine to_wb (fun W => Box W w.heap.size (w.heap.size + 1 + 1 + 1 + 1 + 1 + 1) (.slice (some ⟨z.ga, 0, none⟩) z.b.ac.length z.ca) (.slice (some ⟨z.gi, 0, none⟩) z.b.ic.length z.ci) (.slice (some ⟨z.gb, 0, none⟩) z.b.bs.length z.cb) (.slice (some ⟨z.gl, 0, none⟩) z.b.ls.length z.cl) (.slice (some ⟨z.gt, 0, none⟩) z.b.ts.length z.ct) (.int .i64 z.b.lot) ∧ Below w.heap.size w W ∧ Ow W w.heap.size z) ?_ ?_
         · exact ⟨box_six_alloc (unhide S3).v _ _ _ _ _ _ _, six_alloc (unhide S3).b (unhide S3).b.size (by omega) _ _ _ _ _ _ _, ow_six_alloc (unhide OZ) (off_lo (unhide LZ) l) (unhide S2).b.size _ _ _ _ _ _ _⟩
         rintro W ⟨X, B, OW⟩
         have g0 := X.c0
         have g1 := X.c1
         have g2 := X.c2
         have g3 := X.c3
         have g4 := X.c4
         have g5 := X.c5
         exact bodyPost_ret (v := .tuple #[.agg #[.slice (some ⟨z.ga, 0, none⟩) z.b.ac.length z.ca, .slice (some ⟨z.gi, 0, none⟩) z.b.ic.length z.ci, .slice (some ⟨z.gb, 0, none⟩) z.b.bs.length z.cb, .slice (some ⟨z.gl, 0, none⟩) z.b.ls.length z.cl, .slice (some ⟨z.gt, 0, none⟩) z.b.ts.length z.ct, .int .i64 z.b.lot], .int .i64 c]) (by simp [results, Tryz.results7, go_sem, g0, g1, g2, g3, g4, g5]) rfl (.inr ⟨unhide TT, z, c, unhide IS, rfl, OW, B⟩))
end Go.Proofs.YteccbaohfmhnfaaGreat.IssueTellI
