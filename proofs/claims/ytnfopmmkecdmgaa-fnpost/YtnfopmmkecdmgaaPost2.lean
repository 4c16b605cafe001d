/- Contract of the program's BalsPost. Condition: lists of at most 2^20 elements. -/
import Derived.Test.YtnfopmmkecdmgaaPost
namespace Go.Proofs.Ytnfopmmkecdmgaa.Post2
open Go.ChangeShapes Go.WideShapes Go.ChangeAt Go.RowKit Bals Triples Cmp SOk3 IOk3 Tab Look SPut3 Out Put Legs Post
set_option linter.unusedVariables false
set_option linter.unusedSimpArgs false

set_option maxRecDepth 100000 in
theorem iLacks (w : World) (B n gL m capL gS s capS : Nat) (f : Int → Int → Int) (ls : List T3) (xs : List Int) (b : Bool) (hl : ls.length = m) (hs : xs.length = s) (s20 : s ≤ 20) (hg : gL < w.heap.size) (hgs : gS < w.heap.size) (h : At3 w gL ls) (hx : Ints.At w gS xs) (hF : Formed ls) (ht : Tab w B n f) (hb : Says b (Lacks f ls xs)) :
    Calls Try.prog 50 #[.map (some B), .slice (some ⟨gL, 0, none⟩) m capL, .slice (some ⟨gS, 0, none⟩) s capS] w fun e w' => e = .returned (.bool b) ∧ Below w.heap.size w w' := by
  have m160 : m ≤ 160 := by have := hF.1; omega
  have H := hide h
  have HX := hide hx
  have HF := hide hF
  have T0 := hide ht
  have HS := hide hb
  clear h hF ht hx hb
  go_enter Try.func50, Try.ntmps50
  go_wp2
  go_loopw [8, 11] (fun _ j wr => ∃ (k : Nat), k ≤ m ∧ j = .int .i64 k ∧ Hid (Below w.heap.size w wr) ∧ Hid (∀ j, j < k → ¬ (f (el3 ls j).1 (el3 ls j).2.1 < 0 ∧ (el3 ls j).1 ∉ xs))) (fun _ j _ => m - (intOf j).toNat)
  case atStart => exact ⟨0, by omega, rfl, hide (Below.refl _ _), hide (fun j hj => by omega)⟩
  case round =>
    obtain ⟨k, hk, rfl, HB, HG⟩ := hrel
    by_cases t : k < m
    · obtain ⟨e1, e2, e3⟩ := (unhide H).below (unhide HB) hg k (by omega)
      obtain ⟨l1, l2, l3⟩ := (unhide HF).2 k (by omega)
      have WF := wf_no l1 l2
      obtain ⟨c, SC⟩ := says_of ((el3 ls k).1 ∈ xs)
      have YES := hide (show f (el3 ls k).1 (el3 ls k).2.1 < 0 ∧ (el3 ls k).1 ∉ xs → b = true from fun q => (unhide HS).of ⟨k, by omega, q.1, q.2⟩)
      have GO := hide (show ¬ (f (el3 ls k).1 (el3 ls k).2.1 < 0 ∧ (el3 ls k).1 ∉ xs) → ∀ j, j < k + 1 → ¬ (f (el3 ls j).1 (el3 ls j).2.1 < 0 ∧ (el3 ls j).1 ∉ xs) from fun q j hj => by
        by_cases e : j = k
        · subst e; exact q
        · exact (unhide HG) j (by omega))
      have bs := (unhide HB).size
      have X1 := hide ((unhide HX).below (next (unhide HB) (one_more wr (.cells #[.int .i64 (el3 ls k).1, .int .i64 (el3 ls k).2.1, .int .i64 (el3 ls k).2.2] 34))) hgs)
      have T1 := hide ((unhide T0).below (next (unhide HB) (one_more wr (.cells #[.int .i64 (el3 ls k).1, .int .i64 (el3 ls k).2.1, .int .i64 (el3 ls k).2.2] 34))))
      have B1 := hide ((unhide HB).alloc bs (.cells #[.int .i64 (el3 ls k).1, .int .i64 (el3 ls k).2.1, .int .i64 (el3 ls k).2.2] 34))
      clear l1 l2 l3
      generalize (el3 ls k).1 = x at *
      generalize (el3 ls k).2.1 = y at *
      generalize (el3 ls k).2.2 = z at *
      generalize hv : f x y = v at *
      have HV := hide hv
      clear hv
      by_cases v0 : v < 0
      · cases c
        · obtain rfl : b = true := (unhide YES) ⟨v0, SC.no⟩
          clear YES GO
          go_wp2_with (first | (at_lookup; refine wp_look _ rfl _ _ 52 rfl Try.underlying52 B n f rfl (unhide T1) x y rfl WF ?_; rw [unhide HV]) | (go_at_call 58; refine (iHas _ gS s capS xs x false hs (by omega) (unhide X1) SC).mono ?_; rintro e w2 ⟨rfl, rfl⟩) | go_in)
          go_ret
          exact ⟨rfl, unhide B1⟩
        · have G := hide ((unhide GO) (fun q => q.2 SC.yes))
          clear YES GO
          go_wp2_with (first | (at_lookup; refine wp_look _ rfl _ _ 52 rfl Try.underlying52 B n f rfl (unhide T1) x y rfl WF ?_; rw [unhide HV]) | (go_at_call 58; refine (iHas _ gS s capS xs x true hs (by omega) (unhide X1) SC).mono ?_; rintro e w2 ⟨rfl, rfl⟩) | go_in)
          go_roundw
          case rel => exact ⟨k + 1, by omega, by go_num, B1, G⟩
          case measure => simp [intOf]; omega
      · have G := hide ((unhide GO) (fun q => v0 q.1))
        clear YES GO
        go_wp2_with (first | (at_lookup; refine wp_look _ rfl _ _ 52 rfl Try.underlying52 B n f rfl (unhide T1) x y rfl WF ?_; rw [unhide HV]) | go_in)
        go_roundw
        case rel => exact ⟨k + 1, by omega, by go_num, B1, G⟩
        case measure => simp [intOf]; omega
    · obtain rfl : k = m := by omega
      obtain rfl : b = false := (unhide HS).not (fun r => by
        obtain ⟨j, hj, q⟩ := r
        exact (unhide HG) j (by omega) q)
      go_wp2
      go_ret
      exact ⟨rfl, unhide HB⟩

/-- What the program's post answers; with nothing against it the table tells all. -/
def IsCode (f : Int → Int → Int) (ls : List T3) (xs : List Int) (w' : World) (B : Nat) (c : Int) : Prop :=
  (¬ Even ls ∧ c = 2) ∨
  (Even ls ∧ posts f ls = none ∧ c = 4) ∨
  (∃ f', Even ls ∧ posts f ls = some f' ∧ Lacks f' ls xs ∧ c = 3) ∨
  (∃ f' qs, Even ls ∧ posts f ls = some f' ∧ ¬ Lacks f' ls xs ∧ ListOf f' qs ∧ ¬ qs.length ≤ 160 ∧ c = 5) ∨
  (∃ f' qs n, Even ls ∧ posts f ls = some f' ∧ ¬ Lacks f' ls xs ∧ ListOf f' qs ∧ qs.length ≤ 160 ∧ n ≤ 1000 ∧ Tab w' B n f' ∧ c = 0)

theorem ints_grown {w w' : World} {g B : Nat} {xs : List Int} (h : Ints.At w g xs) (k : w.grownBy w' (some B)) (hg : g < w.heap.size) (hne : g ≠ B) : Ints.At w' g xs := by
  intro i hi
  have e : w'.heap[g]? = w.heap[g]? := k.block g hg (by simp; exact hne)
  exact (World.cell?_of_block (w := w) (a := ⟨g, i, none⟩) e).trans (h i hi)

theorem below_row {w w' : World} (h : Below w.heap.size w w') (B : Nat) : w.grownBy w' (some B) := ⟨h.os, h.tape, h.output, h.size, fun j hj _ => h.block j hj⟩

set_option maxRecDepth 100000 in
theorem iPost (w : World) (B n gL m capL gS s capS : Nat) (f : Int → Int → Int) (ls : List T3) (xs : List Int) (hl : ls.length = m) (hs : xs.length = s) (s20 : s ≤ 20) (hn : n ≤ 200) (hg : gL < w.heap.size) (hgs : gS < w.heap.size) (ne1 : gL ≠ B) (ne2 : gS ≠ B) (h : At3 w gL ls) (hx : Ints.At w gS xs) (hF : Formed ls) (hf : Fine f) (ht : Tab w B n f) :
    Calls Try.prog 28 #[.map (some B), .slice (some ⟨gL, 0, none⟩) m capL, .slice (some ⟨gS, 0, none⟩) s capS] w fun e w' => ∃ c, e = .returned (.int .i64 c) ∧ IsCode f ls xs w' B c ∧ w.grownBy w' (some B) := by
  have m160 : m ≤ 160 := by have := hF.1; omega
  obtain ⟨b, SB⟩ := says_of (Even ls)
  have H := hide h
  have HX := hide hx
  have HF := hide hF
  have T0 := hide ht
  have FF := hide hf
  clear h hF ht hx hf
  go_enter Try.func28, Try.ntmps28
  go_wp2_with fail
  refine (iEven _ gL m capL ls b hl hg (unhide H) (unhide HF) SB).mono ?_
  rintro e w1 ⟨rfl, n1⟩
  have A1 := hide ((unhide H).below n1 hg)
  have X1 := hide ((unhide HX).below n1 hgs)
  have T1 := hide ((unhide T0).below n1)
  have G1 := hide (below_row n1 B)
  have s1 := n1.size
  clear n1
  cases b
  · go_wp2
    go_ret
    exact ⟨2, rfl, .inl ⟨SB.no, rfl⟩, unhide G1⟩
  go_wp2_with fail
  refine (iAddT _ B n gL m capL f ls hl (by omega) (by omega) ne1 (unhide A1) (unhide HF) (unhide FF) (unhide T1)).mono ?_
  rintro e w2 ⟨ok, rfl, hy, hno, g2⟩
  have HY := hide hy
  have HN := hide hno
  have A2 := hide (at3_grown (unhide A1) g2 (by omega) ne1)
  have X2 := hide (ints_grown (unhide X1) g2 (by omega) ne2)
  have G2 := hide (grown_trans (unhide G1) g2)
  have s2 := g2.size
  clear hy hno g2
  cases ok
  · have E := hide ((unhide HN) rfl)
    clear HY HN
    go_wp2
    go_ret
    exact ⟨4, rfl, .inr (.inl ⟨SB.yes, unhide E, rfl⟩), unhide G2⟩
  obtain ⟨f', E, t2, fi⟩ := (unhide HY) rfl
  have T2 := hide t2
  have EE := hide E
  clear HY HN t2 fi E
  obtain ⟨c, SC⟩ := says_of (Lacks f' ls xs)
  go_wp2_with fail
  refine (iLacks _ B (n + m) gL m capL gS s capS f' ls xs c hl hs s20 (by omega) (by omega) (unhide A2) (unhide X2) (unhide HF) (unhide T2) SC).mono ?_
  rintro e w3 ⟨rfl, n3⟩
  have T3 := hide ((unhide T2).below n3)
  have G3 := hide (grown_trans (unhide G2) (below_row n3 B))
  clear n3
  cases c
  · go_wp2_with fail
    refine (iBals _ B (n + m) f' (by omega) (unhide T3)).mono ?_
    rintro e w4 ⟨qs, g4, c4, lo, ll, rfl, o4, n4⟩
    have LO := hide lo
    have T4 := hide ((unhide T3).below n4)
    have G4 := hide (grown_trans (unhide G3) (below_row n4 B))
    clear lo o4 n4
    by_cases ln : qs.length ≤ 160
    · have ln2 : ¬ (160 : Int) < (qs.length : Int) := by omega
      go_wp2
      go_ret
      exact ⟨0, rfl, .inr (.inr (.inr (.inr ⟨f', qs, n + m, SB.yes, unhide EE, SC.no, unhide LO, ln, by omega, unhide T4, rfl⟩))), unhide G4⟩
    · have ln2 : (160 : Int) < (qs.length : Int) := by omega
      go_wp2
      go_ret
      exact ⟨5, rfl, .inr (.inr (.inr (.inl ⟨f', qs, SB.yes, unhide EE, SC.no, unhide LO, ln, rfl⟩))), unhide G4⟩
  · go_wp2
    go_ret
    exact ⟨3, rfl, .inr (.inr (.inl ⟨f', SB.yes, unhide EE, SC.yes, rfl⟩)), unhide G3⟩

/-- What a call answers: a list of its own. -/
def PostAnswers (w : World) (ps ls : List T3) (xs : List Int) (e : Ending) (w' : World) : Prop :=
  ∃ qs c g cap, IsPost ps ls xs qs c ∧ e = .returned (.tuple #[.slice (some ⟨g, 0, none⟩) qs.length cap, .int .i64 c]) ∧ Own3 44 w' w.heap.size g qs.length cap qs ∧ Below w.heap.size w w'

theorem none_posted {w u : World} {ps ls : List T3} {xs : List Int} (hp : IsPost ps ls xs [] 1) (hb : Below w.heap.size w u) : PostAnswers w ps ls xs (.returned (.tuple #[.slice (some ⟨u.heap.size, 0, none⟩) 0 0, .int .i64 1])) (u.alloc (.cells #[] 44)) :=
  ⟨[], 1, u.heap.size, 0, hp, rfl, lit30 _ _ _ hb.size, hb.alloc hb.size _⟩

set_option maxRecDepth 100000 in
set_option maxHeartbeats 1000000 in
theorem iBalsPost (w : World) (g n cap gL m capL gS s capS : Nat) (ps ls : List T3) (xs : List Int) (hp : ps.length = n) (hl : ls.length = m) (hs : xs.length = s) (n20 : n ≤ 1048576) (m20 : m ≤ 1048576) (s20 : s ≤ 1048576)
    (hg : g < w.heap.size) (hgL : gL < w.heap.size) (hgS : gS < w.heap.size) (h : At3 w g ps) (hL : At3 w gL ls) (hX : Ints.At w gS xs) :
    Calls Try.prog 8 #[.slice (some ⟨g, 0, none⟩) n cap, .slice (some ⟨gL, 0, none⟩) m capL, .slice (some ⟨gS, 0, none⟩) s capS] w (PostAnswers w ps ls xs) := by
  obtain ⟨b0, S0⟩ := says_of (Right ps)
  obtain ⟨b1, S1⟩ := says_of (Formed ls)
  have BAD := hide (show ¬ (b0 = true ∧ b1 = true ∧ s ≤ 20) → IsPost ps ls xs [] 1 from fun hb => .bad (fun r => hb ⟨S0.of r.1, S1.of r.2.1, by omega⟩))
  have H := hide h
  have HL := hide hL
  have HX := hide hX
  clear h hL hX
  go_enter Try.func8, Try.ntmps8
  go_wp2_with fail
  refine (iOk _ g n cap ps b0 hp n20 hg (unhide H) S0).mono ?_
  rintro e w1 ⟨rfl, n1⟩
  have A1 := hide ((unhide H).below n1 hg)
  have L1 := hide ((unhide HL).below n1 hgL)
  have X1 := hide ((unhide HX).below n1 hgS)
  have B1 := hide n1
  have s1 := n1.size
  clear n1
  cases b0
  · have P0 := hide ((unhide BAD) (fun q => by cases q.1))
    go_wp2
    go_ret2
    exact none_posted (unhide P0) (unhide B1)
  go_wp2_with fail
  refine (iFormed _ gL m capL ls b1 hl m20 (by omega) (unhide L1) S1).mono ?_
  rintro e w2 ⟨rfl, n2⟩
  have A2 := hide ((unhide A1).below n2 (by omega))
  have L2 := hide ((unhide L1).below n2 (by omega))
  have X2 := hide ((unhide X1).below n2 (by omega))
  have B2 := hide (next (unhide B1) n2)
  have s2 := n2.size
  clear n2
  cases b1
  · have P0 := hide ((unhide BAD) (fun q => by cases q.2.1))
    go_wp2
    go_ret2
    exact none_posted (unhide P0) (unhide B2)
  by_cases ts : s ≤ 20
  · have ts2 : ¬ (20 : Int) < (s : Int) := by omega
    have ALL := hide (show Right ps ∧ Formed ls ∧ xs.length ≤ 20 from ⟨S0.yes, S1.yes, by omega⟩)
    have n160 : n ≤ 160 := by have := S0.yes.1; omega
    have FF := hide (fine_of S0.yes)
    clear BAD
    go_wp2_with fail
    refine (iTable _ g n cap ps hp (by omega) (unhide A2) S0.yes).mono ?_
    rintro e w3 ⟨rfl, t3, n3⟩
    have A3 := hide ((unhide A2).below n3 (by omega))
    have L3 := hide ((unhide L2).below n3 (by omega))
    have X3 := hide ((unhide X2).below n3 (by omega))
    have B3 := hide (next (unhide B2) n3)
    have T3 := hide t3
    have s3 := n3.size
    have tl := t3.lt
    clear n3 t3
    go_wp2_with fail
    refine (iPost _ w2.heap.size n gL m capL gS s capS (val ps) ls xs hl hs ts (by omega) (by omega) (by omega) (by omega) (by omega) (unhide L3) (unhide X3) S1.yes (unhide FF) (unhide T3)).mono ?_
    rintro e w4 ⟨c, rfl, hc, g4⟩
    have A4 := hide (at3_grown (unhide A3) g4 (by omega) (by omega))
    have B4 := hide ((unhide B3).grown g4 (unhide B3).size (fun j hj => by cases hj; omega))
    have s4 := g4.size
    have b4 := (unhide B4).size
    have HC := hide hc
    clear g4 hc
    by_cases c0 : c = 0
    · subst c0
      have TT := hide (show ∃ f' qs k, Even ls ∧ posts (val ps) ls = some f' ∧ ¬ Lacks f' ls xs ∧ ListOf f' qs ∧ qs.length ≤ 160 ∧ k ≤ 1000 ∧ Tab w4 w2.heap.size k f' from by
        rcases unhide HC with ⟨_, e⟩ | ⟨_, _, e⟩ | ⟨_, _, _, _, e⟩ | ⟨_, _, _, _, _, _, _, e⟩ | ⟨f', qs, k, a, b, c, d, e, f, g, _⟩
        · omega
        · omega
        · omega
        · omega
        · exact ⟨f', qs, k, a, b, c, d, e, f, g⟩)
      obtain ⟨f', qs, k, EV, EP, NL, LO, LN, k1000, t4⟩ := unhide TT
      have T4 := hide t4
      have P0 := hide (IsPost.done f' qs (unhide ALL) EV EP NL LO LN)
      have LO := hide LO
      clear TT HC EV EP NL t4
      go_wp2_with fail
      refine (iBals _ w2.heap.size k f' (by omega) (unhide T4)).mono ?_
      rintro e w5 ⟨rs, g5, c5, lo, ll, rfl, o5, n5⟩
      obtain rfl := (unhide LO).same lo
      have O5 := hide (o5.rebase (base' := w.heap.size) (by have := o5.lt.1; omega))
      have B5 := hide (next (unhide B4) n5)
      clear lo o5 n5
      go_wp2
      go_ret2
      exact ⟨_, 0, g5, c5, unhide P0, rfl, unhide O5, unhide B5⟩
    · have P0 := hide (show IsPost ps ls xs ps c from by
        rcases unhide HC with ⟨a, rfl⟩ | ⟨a, b, rfl⟩ | ⟨f', a, b, d, rfl⟩ | ⟨f', qs, a, b, d, e, q, rfl⟩ | ⟨_, _, _, _, _, _, _, _, _, _, e⟩
        · exact .uneven (unhide ALL) a
        · exact .large (unhide ALL) a b
        · exact .short f' (unhide ALL) a b d
        · exact .full f' qs (unhide ALL) a b d e q
        · exact absurd e c0)
      have c0b : (c == 0) = false := by simpa using c0
      clear HC
      have Z := hide (lit30 44 w4 w.heap.size b4)
      have A5 := hide ((unhide A4).below (one_more w4 (.cells #[] 44)) (by omega))
      go_wp2_with (first | (at_builtin; refine BalApp.wp_copy _ rfl _ _ rfl w.heap.size w4.heap.size n 0 ps g cap rfl rfl (unhide Z) hp (unhide A5) (by omega) (by simp; omega) ?_) | go_in)
      intro g6 c6 w6 o6 gr6 _
      have O6 := hide o6
      have B6 := hide (((unhide B4).alloc b4 (.cells #[] 44)).grown gr6 (by simp; omega) (fun j hj => by cases hj; exact b4))
      clear o6 gr6
      go_wp2
      go_ret2
      exact ⟨ps, c, g6, c6, unhide P0, by rw [hp]; rfl, by rw [hp]; exact unhide O6, unhide B6⟩
  · have ts2 : (20 : Int) < (s : Int) := by omega
    have P0 := hide ((unhide BAD) (fun q => ts q.2.2))
    go_wp2
    go_ret2
    exact none_posted (unhide P0) (unhide B2)

end Go.Proofs.Ytnfopmmkecdmgaa.Post2
