/- Texts of one proof, one behind the other: STrd, Post2, SPost, Shorts, SBk, SIssue, TBox, LegApp, SLegs, SCarry, SMove, SCarryP, SSettle, ICmdF, IPostB, ITakeBk, IOpenBk, Concat3, ISet, IssueTellI. -/
import Derived.Test.YtpdgljjndgikoaaGreatRows
import Derived.Test.YtpdgljjndgikoaaGreatSA1
import Derived.Test.YtpdgljjndgikoaaGreatSA2
import Derived.Test.YtpdgljjndgikoaaGreatSL3
import Derived.Test.YtpdgljjndgikoaaGreatSL4
import Derived.Test.YtpdgljjndgikoaaGreatSL5
import Derived.Test.YtpdgljjndgikoaaGreatSL6
import Derived.Deep.RegionHeld3
import Derived.Maps.AppendAt
import Derived.Deep.AppendLies
import Derived.Lib.AppendZerosOnto
import Derived.Lib.AppendZeros
set_option linter.unusedVariables false
set_option linter.unusedSimpArgs false
namespace Go.Proofs.YtpdgljjndgikoaaGreat.STrd
open Go.ChangeShapes Go.WideShapes Go.ChangeAt Go.RowKit BMem Bks ILists IBalsFit Ans Trd
open Lots (Says says_of NoOk)
open Tup8 (T8 el8)
set_option maxRecDepth 100000 in
set_option maxHeartbeats 4000000 in
theorem sFind (w : World) (x : Bx) (no : Int) (h : Rd w x) :
    Calls Tryz.prog 62 #[.agg #[.slice (some ⟨x.ga, 0, none⟩) x.b.ac.length x.ca, .slice (some ⟨x.gi, 0, none⟩) x.b.ic.length x.ci, .slice (some ⟨x.gb, 0, none⟩) x.b.bs.length x.cb, .slice (some ⟨x.gl, 0, none⟩) x.b.ls.length x.cl, .slice (some ⟨x.gt, 0, none⟩) x.b.ts.length x.ct, .int .i64 x.b.lot], .int .i64 no] w fun e w' => ∃ r, FoundAt x.b.ts no r ∧ e = .returned (.int .i64 r) ∧ Below w.heap.size w w' := by
  have S0 := hide (St.start h 36)
  have nt := h.nt
  clear h
  go_enter Tryz.func62, Tryz.ntmps62
  go_wp2
  go_loopw [5] (fun i wr => ∃ (k : Nat), k ≤ x.b.ts.length ∧ i = .int .i64 k ∧ St w wr x ∧ Hid (∀ j, j < k → (el8 x.b.ts j).1 ≠ no)) (fun i _ => x.b.ts.length - (intOf i).toNat)
  case atStart => exact ⟨0, by omega, rfl, unhide S0, hide (fun i hi => absurd hi (by omega))⟩
  case round =>
    obtain ⟨k, hk, rfl, hS, HG⟩ := hrel
    clear S0
    obtain ⟨c0, c1, c2, c3, c4, c5⟩ := hS.c
    by_cases t : k < x.b.ts.length
    · obtain ⟨d0, d1, d2, d3, d4, d5, d6, d7⟩ := (hS.r.rt k t)
      have S1 := hide hS
      obtain ⟨y, hy⟩ : ∃ y, Hid ((el8 x.b.ts k).1 = y) := ⟨_, rfl⟩
      rw [unhide hy] at d0
      clear hS d1 d2 d3 d4 d5 d6 d7
      by_cases q : y = no
      · have F := hide (show FoundAt x.b.ts no k from .inl ⟨k, ⟨t, (unhide hy).trans q, unhide HG⟩, rfl⟩)
        have hq : (y == no) = true := by simp [q]
        clear q hy HG
        go_wp2
        go_ret
        exact ⟨k, unhide F, rfl, (unhide S1).b⟩
      · have G := hide (show ∀ j, j < k + 1 → (el8 x.b.ts j).1 ≠ no from fun j hj => by
          by_cases e : j = k
          · subst e; rw [unhide hy]; exact q
          · exact (unhide HG) j (by omega))
        have hq : (y == no) = false := by simp [q]
        clear q hy HG
        go_wp2
        go_roundw
        case rel => exact ⟨k + 1, by omega, by go_num, unhide S1, G⟩
        case measure => simp [intOf]; omega
    · have F := hide (show FoundAt x.b.ts no (-1) from .inr ⟨fun j hj => (unhide HG) j (by omega), rfl⟩)
      have S1 := hide hS
      clear hS HG
      go_wp2
      go_ret
      exact ⟨-1, unhide F, rfl, (unhide S1).b⟩
set_option maxRecDepth 100000 in
set_option maxHeartbeats 4000000 in
theorem sOpenAt (w : World) (x : Bx) (no : Int) (h : Rd w x) :
    Calls Tryz.prog 22 #[.agg #[.slice (some ⟨x.ga, 0, none⟩) x.b.ac.length x.ca, .slice (some ⟨x.gi, 0, none⟩) x.b.ic.length x.ci, .slice (some ⟨x.gb, 0, none⟩) x.b.bs.length x.cb, .slice (some ⟨x.gl, 0, none⟩) x.b.ls.length x.cl, .slice (some ⟨x.gt, 0, none⟩) x.b.ts.length x.ct, .int .i64 x.b.lot], .int .i64 no] w fun e w' => ∃ r c, OpenAt x.b.ts no r c ∧ e = .returned (.tuple #[.int .i64 r, .int .i64 c]) ∧ Below w.heap.size w w' := by
  have S0 := hide (St.start h 36)
  have nt := h.nt
  clear h
  go_enter Tryz.func22, Tryz.ntmps22
  go_wp2_with fail
  refine (sFind _ x no (unhide S0).r).mono ?_
  rintro e w1 ⟨r, hf, rfl, bb⟩
  have S1 := hide ((unhide S0).step bb)
  clear bb S0
  obtain ⟨c0, c1, c2, c3, c4, c5⟩ := (unhide S1).c
  rcases hf with ⟨k, hk, rfl⟩ | ⟨hn, rfl⟩
  · have t := hk.1
    obtain ⟨d0, d1, d2, d3, d4, d5, d6, d7⟩ := ((unhide S1).r.rt k t)
    have K := hide hk
    obtain ⟨y, hy⟩ : ∃ y, Hid ((el8 x.b.ts k).2.2.2.2.2.2.2 = y) := ⟨_, rfl⟩
    rw [unhide hy] at d7
    clear hk d0 d1 d2 d3 d4 d5 d6
    by_cases q : y = 1
    · have F := hide (show OpenAt x.b.ts no k 0 from .inr ⟨k, unhide K, rfl, .inr ⟨(unhide hy).trans q, rfl⟩⟩)
      have hq : (y != 1) = false := by simp [q]
      clear q hy
      go_wp2
      go_ret2
      exact ⟨k, 0, unhide F, rfl, (unhide S1).b⟩
    · have F := hide (show OpenAt x.b.ts no k 6 from .inr ⟨k, unhide K, rfl, .inl ⟨by rw [unhide hy]; exact q, rfl⟩⟩)
      have hq : (y != 1) = true := by simp [q]
      clear q hy
      go_wp2
      go_ret2
      exact ⟨k, 6, unhide F, rfl, (unhide S1).b⟩
  · have F := hide (show OpenAt x.b.ts no (-1) 3 from .inl ⟨hn, rfl, rfl⟩)
    clear hn
    go_wp2
    go_ret2
    exact ⟨-1, 3, unhide F, rfl, (unhide S1).b⟩
end Go.Proofs.YtpdgljjndgikoaaGreat.STrd
namespace Go.Proofs.YtpdgljjndgikoaaGreat.Post2
open Go.ChangeShapes Go.WideShapes Go.ChangeAt Go.RowKit Bals Triples Cmp SOk3 IOk3 Tab Look SPut3 Out Legs Post
set_option maxRecDepth 100000 in
theorem iLacks (w : World) (B n gL m capL gS s capS : Nat) (f : Int → Int → Int) (ls : List T3) (xs : List Int) (b : Bool) (hl : ls.length = m) (hs : xs.length = s) (s20 : s ≤ 20) (hg : gL < w.heap.size) (hgs : gS < w.heap.size) (h : At3 w gL ls) (hx : Ints.At w gS xs) (hF : Formed ls) (ht : Tab w B n f) (hb : Says b (Lacks f ls xs)) :
    Calls Tryz.prog 190 #[.map (some B), .slice (some ⟨gL, 0, none⟩) m capL, .slice (some ⟨gS, 0, none⟩) s capS] w fun e w' => e = .returned (.bool b) ∧ Below w.heap.size w w' := by
  have m160 : m ≤ 160 := by have := hF.1; omega
  have H := hide h
  have HX := hide hx
  have HF := hide hF
  have T0 := hide ht
  have HS := hide hb
  clear h hF ht hx hb
  go_enter Tryz.func190, Tryz.ntmps190
  go_wp2
  go_loopw [8, 11] (fun _ j wr => ∃ (k : Nat), k ≤ m ∧ j = .int .i64 k ∧ Hid (Below w.heap.size w wr) ∧ Hid (∀ j, j < k → ¬ (f (el3 ls j).1 (el3 ls j).2.1 < 0 ∧ (el3 ls j).1 ∉ xs))) (fun _ j _ => m - (intOf j).toNat)
  case atStart => exact ⟨0, by omega, rfl, hide (Below.refl _ _), hide (fun j hj => by omega)⟩
  case round =>
    obtain ⟨k, hk, rfl, HB, HG⟩ := hrel
    by_cases t : k < m
    · obtain ⟨e1, e2, e3⟩ := (unhide H).below (unhide HB) hg k (by omega)
      obtain ⟨l1, l2, l3⟩ := (unhide HF).2 k (by omega)
      have WF := wf_no l1 l2
      obtain ⟨c, SC⟩ := says_of ((el3 ls k).1 ∈ xs)
      have YES := hide (show f (el3 ls k).1 (el3 ls k).2.1 < 0 ∧ (el3 ls k).1 ∉ xs → b = true from fun q => (unhide HS).of ⟨k, by omega, q.1, q.2⟩)
      have GO := hide (show ¬ (f (el3 ls k).1 (el3 ls k).2.1 < 0 ∧ (el3 ls k).1 ∉ xs) → ∀ j, j < k + 1 → ¬ (f (el3 ls j).1 (el3 ls j).2.1 < 0 ∧ (el3 ls j).1 ∉ xs) from fun q j hj => by
        by_cases e : j = k
        · subst e; exact q
        · exact (unhide HG) j (by omega))
      have bs := (unhide HB).size
      have X1 := hide ((unhide HX).below (next (unhide HB) (one_more wr (.cells #[.int .i64 (el3 ls k).1, .int .i64 (el3 ls k).2.1, .int .i64 (el3 ls k).2.2] 144))) hgs)
      have T1 := hide ((unhide T0).below (next (unhide HB) (one_more wr (.cells #[.int .i64 (el3 ls k).1, .int .i64 (el3 ls k).2.1, .int .i64 (el3 ls k).2.2] 144))))
      have B1 := hide ((unhide HB).alloc bs (.cells #[.int .i64 (el3 ls k).1, .int .i64 (el3 ls k).2.1, .int .i64 (el3 ls k).2.2] 144))
      clear l1 l2 l3
      generalize (el3 ls k).1 = x at *
      generalize (el3 ls k).2.1 = y at *
      generalize (el3 ls k).2.2 = z at *
      generalize hv : f x y = v at *
      have HV := hide hv
      clear hv
      by_cases v0 : v < 0
      · cases c
        · obtain rfl : b = true := (unhide YES) ⟨v0, SC.no⟩
          clear YES GO
          go_wp2_with (first | (at_lookup; refine wp_look _ rfl _ _ 155 rfl Tryz.underlying155 B n f rfl (unhide T1) x y rfl WF ?_; rw [unhide HV]) | (go_at_call 206; refine (iHas _ gS s capS xs x false hs (by omega) (unhide X1) SC).mono ?_; rintro e w2 ⟨rfl, rfl⟩) | go_in)
          go_ret
          exact ⟨rfl, unhide B1⟩
        · have G := hide ((unhide GO) (fun q => q.2 SC.yes))
          clear YES GO
          go_wp2_with (first | (at_lookup; refine wp_look _ rfl _ _ 155 rfl Tryz.underlying155 B n f rfl (unhide T1) x y rfl WF ?_; rw [unhide HV]) | (go_at_call 206; refine (iHas _ gS s capS xs x true hs (by omega) (unhide X1) SC).mono ?_; rintro e w2 ⟨rfl, rfl⟩) | go_in)
          go_roundw
          case rel => exact ⟨k + 1, by omega, by go_num, B1, G⟩
          case measure => simp [intOf]; omega
      · have G := hide ((unhide GO) (fun q => v0 q.1))
        clear YES GO
        go_wp2_with (first | (at_lookup; refine wp_look _ rfl _ _ 155 rfl Tryz.underlying155 B n f rfl (unhide T1) x y rfl WF ?_; rw [unhide HV]) | go_in)
        go_roundw
        case rel => exact ⟨k + 1, by omega, by go_num, B1, G⟩
        case measure => simp [intOf]; omega
    · obtain rfl : k = m := by omega
      obtain rfl : b = false := (unhide HS).not (fun r => by
        obtain ⟨j, hj, q⟩ := r
        exact (unhide HG) j (by omega) q)
      go_wp2
      go_ret
      exact ⟨rfl, unhide HB⟩
def IsCode (f : Int → Int → Int) (ls : List T3) (xs : List Int) (w' : World) (B : Nat) (c : Int) : Prop :=
  (¬ Even ls ∧ c = 2) ∨
  (Even ls ∧ posts f ls = none ∧ c = 4) ∨
  (∃ f', Even ls ∧ posts f ls = some f' ∧ Lacks f' ls xs ∧ c = 3) ∨
  (∃ f' qs, Even ls ∧ posts f ls = some f' ∧ ¬ Lacks f' ls xs ∧ ListOf f' qs ∧ ¬ qs.length ≤ 160 ∧ c = 5) ∨
  (∃ f' qs n, Even ls ∧ posts f ls = some f' ∧ ¬ Lacks f' ls xs ∧ ListOf f' qs ∧ qs.length ≤ 160 ∧ n ≤ 1000 ∧ Tab w' B n f' ∧ c = 0)
theorem ints_grown {w w' : World} {g B : Nat} {xs : List Int} (h : Ints.At w g xs) (k : w.grownBy w' (some B)) (hg : g < w.heap.size) (hne : g ≠ B) : Ints.At w' g xs := by
  intro i hi
  have e : w'.heap[g]? = w.heap[g]? := k.block g hg (by simp; exact hne)
  exact (World.cell?_of_block (w := w) (a := ⟨g, i, none⟩) e).trans (h i hi)
theorem below_row {w w' : World} (h : Below w.heap.size w w') (B : Nat) : w.grownBy w' (some B) := ⟨h.os, h.tape, h.output, h.size, fun j hj _ => h.block j hj⟩
set_option maxRecDepth 100000 in
theorem iPost (w : World) (B n gL m capL gS s capS : Nat) (f : Int → Int → Int) (ls : List T3) (xs : List Int) (hl : ls.length = m) (hs : xs.length = s) (s20 : s ≤ 20) (hn : n ≤ 200) (hg : gL < w.heap.size) (hgs : gS < w.heap.size) (ne1 : gL ≠ B) (ne2 : gS ≠ B) (h : At3 w gL ls) (hx : Ints.At w gS xs) (hF : Formed ls) (hf : Fine f) (ht : Tab w B n f) :
    Calls Tryz.prog 168 #[.map (some B), .slice (some ⟨gL, 0, none⟩) m capL, .slice (some ⟨gS, 0, none⟩) s capS] w fun e w' => ∃ c, e = .returned (.int .i64 c) ∧ IsCode f ls xs w' B c ∧ w.grownBy w' (some B) := by
  have m160 : m ≤ 160 := by have := hF.1; omega
  obtain ⟨b, SB⟩ := says_of (Even ls)
  have H := hide h
  have HX := hide hx
  have HF := hide hF
  have T0 := hide ht
  have FF := hide hf
  clear h hF ht hx hf
  go_enter Tryz.func168, Tryz.ntmps168
  go_wp2_with fail
  refine (iEven _ gL m capL ls b hl hg (unhide H) (unhide HF) SB).mono ?_
  rintro e w1 ⟨rfl, n1⟩
  have A1 := hide ((unhide H).below n1 hg)
  have X1 := hide ((unhide HX).below n1 hgs)
  have T1 := hide ((unhide T0).below n1)
  have G1 := hide (below_row n1 B)
  have s1 := n1.size
  clear n1
  cases b
  · go_wp2
    go_ret
    exact ⟨2, rfl, .inl ⟨SB.no, rfl⟩, unhide G1⟩
  go_wp2_with fail
  refine (iAddT _ B n gL m capL f ls hl (by omega) (by omega) ne1 (unhide A1) (unhide HF) (unhide FF) (unhide T1)).mono ?_
  rintro e w2 ⟨ok, rfl, hy, hno, g2⟩
  have HY := hide hy
  have HN := hide hno
  have A2 := hide (at3_grown (unhide A1) g2 (by omega) ne1)
  have X2 := hide (ints_grown (unhide X1) g2 (by omega) ne2)
  have G2 := hide (grown_trans (unhide G1) g2)
  have s2 := g2.size
  clear hy hno g2
  cases ok
  · have E := hide ((unhide HN) rfl)
    clear HY HN
    go_wp2
    go_ret
    exact ⟨4, rfl, .inr (.inl ⟨SB.yes, unhide E, rfl⟩), unhide G2⟩
  obtain ⟨f', E, t2, fi⟩ := (unhide HY) rfl
  have T2 := hide t2
  have EE := hide E
  clear HY HN t2 fi E
  obtain ⟨c, SC⟩ := says_of (Lacks f' ls xs)
  go_wp2_with fail
  refine (iLacks _ B (n + m) gL m capL gS s capS f' ls xs c hl hs s20 (by omega) (by omega) (unhide A2) (unhide X2) (unhide HF) (unhide T2) SC).mono ?_
  rintro e w3 ⟨rfl, n3⟩
  have T3 := hide ((unhide T2).below n3)
  have G3 := hide (grown_trans (unhide G2) (below_row n3 B))
  clear n3
  cases c
  · go_wp2_with fail
    refine (iBals _ B (n + m) f' (by omega) (unhide T3)).mono ?_
    rintro e w4 ⟨qs, g4, c4, lo, ll, rfl, o4, n4⟩
    have LO := hide lo
    have T4 := hide ((unhide T3).below n4)
    have G4 := hide (grown_trans (unhide G3) (below_row n4 B))
    clear lo o4 n4
    by_cases ln : qs.length ≤ 160
    · have ln2 : ¬ (160 : Int) < (qs.length : Int) := by omega
      go_wp2
      go_ret
      exact ⟨0, rfl, .inr (.inr (.inr (.inr ⟨f', qs, n + m, SB.yes, unhide EE, SC.no, unhide LO, ln, by omega, unhide T4, rfl⟩))), unhide G4⟩
    · have ln2 : (160 : Int) < (qs.length : Int) := by omega
      go_wp2
      go_ret
      exact ⟨5, rfl, .inr (.inr (.inr (.inl ⟨f', qs, SB.yes, unhide EE, SC.no, unhide LO, ln, rfl⟩))), unhide G4⟩
  · go_wp2
    go_ret
    exact ⟨3, rfl, .inr (.inr (.inl ⟨f', SB.yes, unhide EE, SC.yes, rfl⟩)), unhide G3⟩
def PostAnswers (w : World) (ps ls : List T3) (xs : List Int) (e : Ending) (w' : World) : Prop :=
  ∃ qs c g cap, IsPost ps ls xs qs c ∧ e = .returned (.tuple #[.slice (some ⟨g, 0, none⟩) qs.length cap, .int .i64 c]) ∧ Own3 98 w' w.heap.size g qs.length cap qs ∧ Below w.heap.size w w'
theorem none_posted {w u : World} {ps ls : List T3} {xs : List Int} (hp : IsPost ps ls xs [] 1) (hb : Below w.heap.size w u) : PostAnswers w ps ls xs (.returned (.tuple #[.slice (some ⟨u.heap.size, 0, none⟩) 0 0, .int .i64 1])) (u.alloc (.cells #[] 98)) :=
  ⟨[], 1, u.heap.size, 0, hp, rfl, lit30 _ _ _ hb.size, hb.alloc hb.size _⟩
set_option maxRecDepth 100000 in
set_option maxHeartbeats 1000000 in
theorem iBalsPost (w : World) (g n cap gL m capL gS s capS : Nat) (ps ls : List T3) (xs : List Int) (hp : ps.length = n) (hl : ls.length = m) (hs : xs.length = s) (n20 : n ≤ 1048576) (m20 : m ≤ 1048576) (s20 : s ≤ 1048576)
    (hg : g < w.heap.size) (hgL : gL < w.heap.size) (hgS : gS < w.heap.size) (h : At3 w g ps) (hL : At3 w gL ls) (hX : Ints.At w gS xs) :
    Calls Tryz.prog 155 #[.slice (some ⟨g, 0, none⟩) n cap, .slice (some ⟨gL, 0, none⟩) m capL, .slice (some ⟨gS, 0, none⟩) s capS] w (PostAnswers w ps ls xs) := by
  obtain ⟨b0, S0⟩ := says_of (Right ps)
  obtain ⟨b1, S1⟩ := says_of (Formed ls)
  have BAD := hide (show ¬ (b0 = true ∧ b1 = true ∧ s ≤ 20) → IsPost ps ls xs [] 1 from fun hb => .bad (fun r => hb ⟨S0.of r.1, S1.of r.2.1, by omega⟩))
  have H := hide h
  have HL := hide hL
  have HX := hide hX
  clear h hL hX
  go_enter Tryz.func155, Tryz.ntmps155
  go_wp2_with fail
  refine (iOk _ g n cap ps b0 hp n20 hg (unhide H) S0).mono ?_
  rintro e w1 ⟨rfl, n1⟩
  have A1 := hide ((unhide H).below n1 hg)
  have L1 := hide ((unhide HL).below n1 hgL)
  have X1 := hide ((unhide HX).below n1 hgS)
  have B1 := hide n1
  have s1 := n1.size
  clear n1
  cases b0
  · have P0 := hide ((unhide BAD) (fun q => by cases q.1))
    go_wp2
    go_ret2
    exact none_posted (unhide P0) (unhide B1)
  go_wp2_with fail
  refine (iFormed _ gL m capL ls b1 hl m20 (by omega) (unhide L1) S1).mono ?_
  rintro e w2 ⟨rfl, n2⟩
  have A2 := hide ((unhide A1).below n2 (by omega))
  have L2 := hide ((unhide L1).below n2 (by omega))
  have X2 := hide ((unhide X1).below n2 (by omega))
  have B2 := hide (next (unhide B1) n2)
  have s2 := n2.size
  clear n2
  cases b1
  · have P0 := hide ((unhide BAD) (fun q => by cases q.2.1))
    go_wp2
    go_ret2
    exact none_posted (unhide P0) (unhide B2)
  by_cases ts : s ≤ 20
  · have ts2 : ¬ (20 : Int) < (s : Int) := by omega
    have ALL := hide (show Right ps ∧ Formed ls ∧ xs.length ≤ 20 from ⟨S0.yes, S1.yes, by omega⟩)
    have n160 : n ≤ 160 := by have := S0.yes.1; omega
    have FF := hide (fine_of S0.yes)
    clear BAD
    go_wp2_with fail
    refine (iTable _ g n cap ps hp (by omega) (unhide A2) S0.yes).mono ?_
    rintro e w3 ⟨rfl, t3, n3⟩
    have A3 := hide ((unhide A2).below n3 (by omega))
    have L3 := hide ((unhide L2).below n3 (by omega))
    have X3 := hide ((unhide X2).below n3 (by omega))
    have B3 := hide (next (unhide B2) n3)
    have T3 := hide t3
    have s3 := n3.size
    have tl := t3.lt
    clear n3 t3
    go_wp2_with fail
    refine (iPost _ w2.heap.size n gL m capL gS s capS (val ps) ls xs hl hs ts (by omega) (by omega) (by omega) (by omega) (by omega) (unhide L3) (unhide X3) S1.yes (unhide FF) (unhide T3)).mono ?_
    rintro e w4 ⟨c, rfl, hc, g4⟩
    have A4 := hide (at3_grown (unhide A3) g4 (by omega) (by omega))
    have B4 := hide ((unhide B3).grown g4 (unhide B3).size (fun j hj => by cases hj; omega))
    have s4 := g4.size
    have b4 := (unhide B4).size
    have HC := hide hc
    clear g4 hc
    by_cases c0 : c = 0
    · subst c0
      have TT := hide (show ∃ f' qs k, Even ls ∧ posts (val ps) ls = some f' ∧ ¬ Lacks f' ls xs ∧ ListOf f' qs ∧ qs.length ≤ 160 ∧ k ≤ 1000 ∧ Tab w4 w2.heap.size k f' from by
        rcases unhide HC with ⟨_, e⟩ | ⟨_, _, e⟩ | ⟨_, _, _, _, e⟩ | ⟨_, _, _, _, _, _, _, e⟩ | ⟨f', qs, k, a, b, c, d, e, f, g, _⟩
        · omega
        · omega
        · omega
        · omega
        · exact ⟨f', qs, k, a, b, c, d, e, f, g⟩)
      obtain ⟨f', qs, k, EV, EP, NL, LO, LN, k1000, t4⟩ := unhide TT
      have T4 := hide t4
      have P0 := hide (IsPost.done f' qs (unhide ALL) EV EP NL LO LN)
      have LO := hide LO
      clear TT HC EV EP NL t4
      go_wp2_with fail
      refine (iBals _ w2.heap.size k f' (by omega) (unhide T4)).mono ?_
      rintro e w5 ⟨rs, g5, c5, lo, ll, rfl, o5, n5⟩
      obtain rfl := (unhide LO).same lo
      have O5 := hide (o5.rebase (base' := w.heap.size) (by have := o5.lt.1; omega))
      have B5 := hide (next (unhide B4) n5)
      clear lo o5 n5
      go_wp2
      go_ret2
      exact ⟨_, 0, g5, c5, unhide P0, rfl, unhide O5, unhide B5⟩
    · have P0 := hide (show IsPost ps ls xs ps c from by
        rcases unhide HC with ⟨a, rfl⟩ | ⟨a, b, rfl⟩ | ⟨f', a, b, d, rfl⟩ | ⟨f', qs, a, b, d, e, q, rfl⟩ | ⟨_, _, _, _, _, _, _, _, _, _, e⟩
        · exact .uneven (unhide ALL) a
        · exact .large (unhide ALL) a b
        · exact .short f' (unhide ALL) a b d
        · exact .full f' qs (unhide ALL) a b d e q
        · exact absurd e c0)
      have c0b : (c == 0) = false := by simpa using c0
      clear HC
      have Z := hide (lit30 98 w4 w.heap.size b4)
      have A5 := hide ((unhide A4).below (one_more w4 (.cells #[] 98)) (by omega))
      go_wp2_with (first | (at_builtin; refine BalApp.wp_copy _ rfl _ _ rfl w.heap.size w4.heap.size n 0 ps g cap rfl rfl (unhide Z) hp (unhide A5) (by omega) (by simp; omega) ?_) | go_in)
      intro g6 c6 w6 o6 gr6 _
      have O6 := hide o6
      have B6 := hide (((unhide B4).alloc b4 (.cells #[] 98)).grown gr6 (by simp; omega) (fun j hj => by cases hj; exact b4))
      clear o6 gr6
      go_wp2
      go_ret2
      exact ⟨ps, c, g6, c6, unhide P0, by rw [hp]; rfl, by rw [hp]; exact unhide O6, unhide B6⟩
  · have ts2 : (20 : Int) < (s : Int) := by omega
    have P0 := hide ((unhide BAD) (fun q => ts q.2.2))
    go_wp2
    go_ret2
    exact none_posted (unhide P0) (unhide B2)
end Go.Proofs.YtpdgljjndgikoaaGreat.Post2
namespace Go.Proofs.YtpdgljjndgikoaaGreat.SPost
open Go.ChangeShapes Go.WideShapes Go.ChangeAt Go.RowKit Bals Triples Cmp SOk3 IOk3 Tab Look SPut3 Out Legs Post Post2
theorem ints_drewN {w : World} {g : Nat} {xs : List Int} (h : Ints.At w g xs) (m : Nat) : Ints.At (w.drewN m) g xs := h
set_option maxRecDepth 100000 in
set_option maxHeartbeats 4000000 in
theorem sBalsPost (w : World) (g n cap gL m capL gS s capS : Nat) (ps ls : List T3) (xs : List Int) (hp : ps.length = n) (hl : ls.length = m) (hs : xs.length = s) (n20 : n ≤ 1048576) (m20 : m ≤ 1048576) (s20 : s ≤ 1048576)
    (hg : g < w.heap.size) (hgL : gL < w.heap.size) (hgS : gS < w.heap.size) (h : At3 w g ps) (hL : At3 w gL ls) (hX : Ints.At w gS xs) :
    Calls Tryz.prog 81 #[.slice (some ⟨g, 0, none⟩) n cap, .slice (some ⟨gL, 0, none⟩) m capL, .slice (some ⟨gS, 0, none⟩) s capS] w (PostAnswers w ps ls xs) := by
  obtain ⟨b0, S0⟩ := says_of (Right ps)
  obtain ⟨b1, S1⟩ := says_of (Formed ls)
  have BAD := hide (show ¬ (b0 = true ∧ b1 = true ∧ s ≤ 20) → IsPost ps ls xs [] 1 from fun hb => .bad (fun r => hb ⟨S0.of r.1, S1.of r.2.1, by omega⟩))
  have H := hide h
  have HL := hide hL
  have HX := hide hX
  clear h hL hX
  go_enter Tryz.func81, Tryz.ntmps81
  go_wp2_with fail
  refine (sOk _ g n cap ps b0 hp n20 hg (unhide H) S0).mono ?_
  rintro e w1 ⟨rfl, n1⟩
  have A1 := hide ((unhide H).below n1 hg)
  have L1 := hide ((unhide HL).below n1 hgL)
  have B1 := hide n1
  have s1 := n1.size
  clear n1
  cases b0
  · have P0 := hide ((unhide BAD) (fun q => by cases q.1))
    go_wp2
    go_ret2
    exact none_posted (unhide P0) (unhide B1)
  go_wp2_with fail
  refine (sRight _ gL m capL ls b1 hl m20 (unhide L1) S1).mono ?_
  rintro e w2 ⟨rfl, rfl⟩
  cases b1
  · have P0 := hide ((unhide BAD) (fun q => by cases q.2.1))
    go_wp2
    go_ret2
    exact none_posted (unhide P0) (unhide B1)
  by_cases ts : ¬ s ≤ 20
  · have ts2 : (20 : Int) < (s : Int) := by omega
    have P0 := hide ((unhide BAD) (fun q => ts q.2.2))
    go_wp2
    go_ret2
    exact none_posted (unhide P0) (unhide B1)
  have ts : s ≤ 20 := by omega
  have ts2 : ¬ (20 : Int) < (s : Int) := by omega
  have ALL := hide (show Right ps ∧ Formed ls ∧ xs.length ≤ 20 from ⟨S0.yes, S1.yes, by omega⟩)
  have n160 : n ≤ 160 := by have := S0.yes.1; omega
  have m160 : m ≤ 160 := by have := S1.yes.1; omega
  have FF := hide (fine_of S0.yes)
  clear BAD
  have bq := (unhide B1).size
  have Z := hide (lit30 98 w2 w.heap.size bq)
  have A5 := hide ((unhide A1).below (one_more w2 (.cells #[] 98)) (by omega))
  go_wp2_with (first | (at_builtin; refine BalApp.wp_copy _ rfl _ _ rfl w.heap.size w2.heap.size n 0 ps g cap rfl rfl (unhide Z) hp (unhide A5) (by omega) (by simp; omega) ?_) | go_in)
  intro g6 c6 w6 o6 gr6 _
  have O6 := hide o6
  have B6 := hide (((unhide B1).alloc bq (.cells #[] 98)).grown gr6 (by simp; omega) (fun j hj => by cases hj; exact bq))
  clear o6 gr6
  have gl6 := (unhide O6).lt.2
  have b6 := (unhide B6).size
  obtain ⟨b, SB⟩ := says_of (Formed ls ∧ Even ls)
  go_wp2_with fail
  refine (sLegsOk _ gL m capL ls b hl m20 ((unhide HL).below (unhide B6) hgL) SB).mono ?_
  rintro e w7 ⟨rfl, q7, rfl⟩
  have O7 := hide (show Own3 98 (w6.drewN q7) w.heap.size g6 n c6 ps from unhide O6)
  have B7 := hide (below_drewN (unhide B6) q7)
  generalize w6.drewN q7 = w7 at *
  clear A1 L1 B1 Z A5 B6 O6 gl6 b6 bq s1
  cases b
  · have P0 := hide (IsPost.uneven (unhide ALL) (fun e => SB.no ⟨S1.yes, e⟩))
    go_wp2
    go_ret2
    exact ⟨ps, 2, g6, c6, unhide P0, by rw [hp]; rfl, by rw [hp]; exact unhide O7, unhide B7⟩
  have EV := hide SB.yes.2
  go_wp2
  go_loopw [9, 10, 11, 12] (fun l j _ _ wr => ∃ (out : List T3) (gO cO k : Nat), l = .slice (some ⟨gO, 0, none⟩) out.length cO ∧ j = .int .i64 k ∧ k ≤ m ∧ out.length ≤ 160 + k ∧ Hid (Own3 98 wr w.heap.size gO out.length cO out) ∧ Hid (Below w.heap.size w wr) ∧ Hid (Bals.Good out) ∧ Hid (Fine (val out)) ∧ Hid (posts (val ps) ls = posts (val out) (ls.drop k))) (fun _ j _ _ _ => m - (intOf j).toNat)
  case atStart => exact ⟨ps, g6, c6, 0, by rw [hp], rfl, by omega, by omega, hide (by rw [hp]; exact unhide O7), B7, hide S0.yes.good, FF, hide rfl⟩
  case round =>
    clear O7 B7
    obtain ⟨out, gO, cO, k, rfl, rfl, hk, ol, HO, HB, GD, FN, HE⟩ := hrel
    have gol := (unhide HO).lt.2
    have bs := (unhide HB).size
    by_cases t : k < m
    · obtain ⟨e1, e2, e3⟩ := (unhide HL).below (unhide HB) hgL k (by omega)
      obtain ⟨l1, l2, l3⟩ := S1.yes.2 k (by omega)
      have AM := ((unhide FN) (el3 ls k).1 (el3 ls k).2.1).1
      obtain ⟨c, SC⟩ := says_of (Amt (val out (el3 ls k).1 (el3 ls k).2.1 + (el3 ls k).2.2))
      have PY := hide (fun a => (unhide HE).trans (posts_yes (f := val out) (ps := ls) (k := k) (by omega) a))
      have PN := hide (fun a => (unhide HE).trans (posts_no (f := val out) (ps := ls) (k := k) (by omega) a))
      have FU := hide (fun a => (unhide FN).upd (a := (el3 ls k).1) (i := (el3 ls k).2.1) (x := val out (el3 ls k).1 (el3 ls k).2.1 + (el3 ls k).2.2) l1 l2 a)
      have OFC := hide (fun q => sOf (wr.drewN q) gO out.length cO out (el3 ls k).1 (el3 ls k).2.1 rfl (by omega) (at_drewN (unhide HO).at q))
      clear HE FN
      generalize (el3 ls k).1 = x at *
      generalize (el3 ls k).2.1 = y at *
      generalize (el3 ls k).2.2 = z at *
      generalize hv : val out x y = v at *
      have HV := hide hv
      clear hv
      have kn : (k : Int) < (m : Int) := by omega
      go_wp2_with fail
      go_quiet (first | (go_at_call 94; refine Calls.quiet_of_same ((unhide OFC) _)) | (go_at_call 106; refine Calls.quiet_of_same (sAdd v z c _ AM l3 SC)))
      have O1 := hide (show Own3 98 (wr.drewN nq) w.heap.size gO out.length cO out from unhide HO)
      have B1 := hide (below_drewN (unhide HB) nq)
      have d1 : (wr.drewN nq).cell? ⟨gL, k * 3, none⟩ = some (.int .i64 x) := e1
      have d2 : (wr.drewN nq).cell? ⟨gL, k * 3 + 1, none⟩ = some (.int .i64 y) := e2
      clear HO HB e1 e2 e3 OFC
      generalize wr.drewN nq = u at *
      have gol := (unhide O1).lt.2
      have bs := (unhide B1).size
      cases c
      · have P0 := hide (IsPost.large (unhide ALL) (unhide EV) ((unhide PN) SC.no))
        have A1 := hide ((unhide H).below (unhide B1) hg)
        clear PY PN FU d1 d2
        have bq := (unhide B1).size
        have Z := hide (lit30 98 u w.heap.size bq)
        have A5 := hide ((unhide A1).below (one_more u (.cells #[] 98)) (by omega))
        go_wp2_with (first | (at_builtin; refine BalApp.wp_copy _ rfl _ _ rfl w.heap.size u.heap.size n 0 ps g cap rfl rfl (unhide Z) hp (unhide A5) (by omega) (by simp; omega) ?_) | go_in)
        intro g6 c6 w6 o6 gr6 _
        have O6 := hide o6
        have B6 := hide (((unhide B1).alloc bq (.cells #[] 98)).grown gr6 (by simp; omega) (fun j hj => by cases hj; exact bq))
        clear o6 gr6
        go_wp2
        go_ret2
        exact ⟨ps, 4, g6, c6, unhide P0, by rw [hp]; rfl, by rw [hp]; exact unhide O6, unhide B6⟩
      · have YES := hide ((unhide PY) SC.yes)
        have FN2 := hide ((unhide FU) SC.yes)
        clear PY PN FU
        have e0 : sumIn v z true = v + z := rfl
        rw [e0]
        clear e0
        generalize hS : v + z = S at *
        clear hS
        obtain ⟨p0, hp0⟩ : ∃ p0 : Bool, (S == 0) = p0 := ⟨_, rfl⟩
        have PV := hide (put_val (x, y, S) out p0 (unhide GD) (by rw [← hp0]; simp))
        have LN := hide (putL_len (x, y, S) out p0)
        have HP := hide hp0
        clear hp0
        have k0 : (0 : Int) ≤ (k : Int) := by omega
        have gLu : gL < u.heap.size := by omega
        go_wp2_with fail
        go_region_held3 (fun w' => w'.cell? ⟨gL, k * 3, none⟩ = some (.int .i64 x) ∧ w'.cell? ⟨gL, k * 3 + 1, none⟩ = some (.int .i64 y)) (go_keep)
          (first | (go_at_call 107; refine (sPut _ gO out.length cO out x y S p0 rfl (by omega) (by exact gol) (by exact (unhide O1).at) (unhide HP)).mono ?_; rintro e w5 ⟨g5, c5, rfl, o5, n5⟩; have h1 : w5.cell? ⟨gL, k * 3, none⟩ = some (.int .i64 x) := (n5.cell (p := ⟨gL, k * 3, none⟩) (by exact gLu)).trans (by exact d1); have h2 : w5.cell? ⟨gL, k * 3 + 1, none⟩ = some (.int .i64 y) := (n5.cell (p := ⟨gL, k * 3 + 1, none⟩) (by exact gLu)).trans (by exact d2)))
        have O5 := hide (o5.rebase (base' := w.heap.size) (by have : u.heap.size ≤ g5 := o5.lt.1; omega))
        have B5 := hide (next (unhide B1) (show Below u.heap.size u w5 from ⟨n5.os, n5.tape, n5.output, n5.size, n5.block⟩))
        have VE : val (putL (x, y, S) out p0) = upd (val out) x y S := funext fun b => funext fun j => (unhide PV).2 b j
        have FN3 := hide (show Fine (val (putL (x, y, S) out p0)) from by rw [VE]; exact unhide FN2)
        have YE3 := hide (show posts (val ps) ls = posts (val (putL (x, y, S) out p0)) (ls.drop (k + 1)) from by rw [VE]; exact unhide YES)
        have LL : (putL (x, y, S) out p0).length ≤ out.length + 1 := by have := unhide LN; split at this <;> omega
        have GD3 := hide (unhide PV).1
        clear o5 n5 VE PV LN YES FN2 d1 d2 O1 B1
        generalize putL (x, y, S) out p0 = qs at *
        go_wp2
        go_roundw
        case rel => exact ⟨qs, g5, c5, k + 1, rfl, by go_num, by omega, by omega, O5, B5, GD3, FN3, YE3⟩
        case measure => simp [intOf]; omega
    · obtain rfl : k = m := by omega
      have EP := hide (show posts (val ps) ls = some (val out) from by rw [unhide HE, List.drop_of_length_le (by omega)]; rfl)
      have LO := hide (show ListOf (val out) out from ⟨unhide GD, fun _ _ => rfl⟩)
      clear HE
      go_wp2
      generalize wr = w8 at *
      go_loopw [13] (fun j wr => ∃ (i : Nat), j = .int .i64 i ∧ i ≤ k ∧ Hid (∃ q, wr = w8.drewN q) ∧ Hid (∀ j, j < i → ¬ (val out (el3 ls j).1 (el3 ls j).2.1 < 0 ∧ (el3 ls j).1 ∉ xs))) (fun j _ => k - (intOf j).toNat)
      case atStart => exact ⟨0, rfl, by omega, hide ⟨0, rfl⟩, hide (fun j hj => by omega)⟩
      case round =>
        obtain ⟨i, rfl, hi, HQ, HG⟩ := hrel
        obtain ⟨q8, e8⟩ := unhide HQ
        have O1 := hide (show Own3 98 wr w.heap.size gO out.length cO out from by rw [e8]; exact unhide HO)
        have B1 := hide (show Below w.heap.size w wr from by rw [e8]; exact below_drewN (unhide HB) q8)
        clear e8
        have gol := (unhide O1).lt.2
        have bs := (unhide B1).size
        by_cases t : i < k
        · obtain ⟨e1, e2, e3⟩ := (unhide HL).below (unhide B1) hgL i (by omega)
          obtain ⟨c, SC⟩ := says_of ((el3 ls i).1 ∈ xs)
          have YES := hide (show val out (el3 ls i).1 (el3 ls i).2.1 < 0 ∧ (el3 ls i).1 ∉ xs → Lacks (val out) ls xs from fun q => ⟨i, by omega, q.1, q.2⟩)
          have GO := hide (show ¬ (val out (el3 ls i).1 (el3 ls i).2.1 < 0 ∧ (el3 ls i).1 ∉ xs) → ∀ j, j < i + 1 → ¬ (val out (el3 ls j).1 (el3 ls j).2.1 < 0 ∧ (el3 ls j).1 ∉ xs) from fun q j hj => by
            by_cases e : j = i
            · subst e; exact q
            · exact (unhide HG) j (by omega))
          have OFC := hide (fun q => sOf (wr.drewN q) gO out.length cO out (el3 ls i).1 (el3 ls i).2.1 rfl (by omega) (at_drewN (unhide O1).at q))
          have HAC := hide (fun q => sHas (wr.drewN q) gS s capS xs (el3 ls i).1 c hs s20 (ints_drewN ((unhide HX).below (unhide B1) hgS) q) SC)
          generalize (el3 ls i).1 = x at *
          generalize (el3 ls i).2.1 = y at *
          generalize (el3 ls i).2.2 = z at *
          generalize hv : val out x y = v at *
          have HV := hide hv
          clear hv
          have kn : (i : Int) < (k : Int) := by omega
          by_cases v0 : v < 0
          · cases c
            · have P0 := hide (IsPost.short (val out) (unhide ALL) (unhide EV) (unhide EP) ((unhide YES) ⟨v0, SC.no⟩))
              clear YES GO
              go_wp2_with fail
              go_quiet (first | (go_at_call 94; refine Calls.quiet_of_same ((unhide OFC) _)) | (go_at_call 108; refine Calls.quiet_of_same ((unhide HAC) _)))
              have B2 := hide (below_drewN (unhide B1) nq)
              clear O1 B1 e1 e2 e3 OFC HAC
              generalize wr.drewN nq = u at *
              have A1 := hide ((unhide H).below (unhide B2) hg)
              have bu := (unhide B2).size
              have bq := (unhide B2).size
              have Z := hide (lit30 98 u w.heap.size bq)
              have A5 := hide ((unhide A1).below (one_more u (.cells #[] 98)) (by omega))
              go_wp2_with (first | (at_builtin; refine BalApp.wp_copy _ rfl _ _ rfl w.heap.size u.heap.size n 0 ps g cap rfl rfl (unhide Z) hp (unhide A5) (by omega) (by simp; omega) ?_) | go_in)
              intro g6 c6 w6 o6 gr6 _
              have O6 := hide o6
              have B6 := hide (((unhide B2).alloc bq (.cells #[] 98)).grown gr6 (by simp; omega) (fun j hj => by cases hj; exact bq))
              clear o6 gr6
              go_wp2
              go_ret2
              exact ⟨ps, 3, g6, c6, unhide P0, by rw [hp]; rfl, by rw [hp]; exact unhide O6, unhide B6⟩
            · have G := hide ((unhide GO) (fun q => q.2 SC.yes))
              clear YES GO
              go_wp2_with fail
              go_quiet (first | (go_at_call 94; refine Calls.quiet_of_same ((unhide OFC) _)) | (go_at_call 108; refine Calls.quiet_of_same ((unhide HAC) _)))
              go_wp2
              go_roundw
              case rel => exact ⟨i + 1, by go_num, by omega, hide (drewN_more (unhide HQ) _), G⟩
              case measure => simp [intOf]; omega
          · have G := hide ((unhide GO) (fun q => v0 q.1))
            have v0b : decide (v < 0) = false := decide_eq_false v0
            clear YES GO
            go_wp2_with fail
            go_quiet (first | (go_at_call 94; refine Calls.quiet_of_same ((unhide OFC) _)))
            go_wp2
            go_roundw
            case rel => exact ⟨i + 1, by go_num, by omega, hide (drewN_more (unhide HQ) _), G⟩
            case measure => simp [intOf]; omega
        · obtain rfl : i = k := by omega
          have NL := hide (show ¬ Lacks (val out) ls xs from fun r => by
            obtain ⟨j, hj, q⟩ := r
            exact (unhide HG) j (by omega) q)
          by_cases ln : out.length ≤ 160
          · have ln2 : ¬ (160 : Int) < (out.length : Int) := by omega
            have P0 := hide (IsPost.done (val out) out (unhide ALL) (unhide EV) (unhide EP) (unhide NL) (unhide LO) ln)
            go_wp2
            go_ret2
            exact ⟨out, 0, gO, cO, unhide P0, rfl, unhide O1, unhide B1⟩
          · have ln2 : (160 : Int) < (out.length : Int) := by omega
            have P0 := hide (IsPost.full (val out) out (unhide ALL) (unhide EV) (unhide EP) (unhide NL) (unhide LO) ln)
            have A1 := hide ((unhide H).below (unhide B1) hg)
            have bq := (unhide B1).size
            have Z := hide (lit30 98 wr w.heap.size bq)
            have A5 := hide ((unhide A1).below (one_more wr (.cells #[] 98)) (by omega))
            go_wp2_with (first | (at_builtin; refine BalApp.wp_copy _ rfl _ _ rfl w.heap.size wr.heap.size n 0 ps g cap rfl rfl (unhide Z) hp (unhide A5) (by omega) (by simp; omega) ?_) | go_in)
            intro g6 c6 w6 o6 gr6 _
            have O6 := hide o6
            have B6 := hide (((unhide B1).alloc bq (.cells #[] 98)).grown gr6 (by simp; omega) (fun j hj => by cases hj; exact bq))
            clear o6 gr6
            go_wp2
            go_ret2
            exact ⟨ps, 5, g6, c6, unhide P0, by rw [hp]; rfl, by rw [hp]; exact unhide O6, unhide B6⟩
end Go.Proofs.YtpdgljjndgikoaaGreat.SPost
namespace Go.Proofs.YtpdgljjndgikoaaGreat.Shorts
open Go.ChangeShapes Go.WideShapes Go.ChangeAt Go.RowKit BMem Bks ILists
theorem own_of_row {w : World} {base n n' : Nat} {v : Value} {vs : List Value} {xs : List Int} (h : w.ownsRow base 3 1 v n vs) (hn : n = n') (e : vs = xs.map (Value.int .i64)) (hv : ¬ v = .slice none 0 0) :
    ∃ g c, v = .slice (some ⟨g, 0, none⟩) n' c ∧ Ints.Own w base g n' c xs := by
  subst hn e
  have h' := h
  rcases h.2 with ⟨h1, _⟩ | ⟨g, c, cur, rfl, _⟩
  · exact absurd h1 hv
  · exact ⟨g, c, rfl, h'⟩
theorem own_alloc {w : World} {base g n cap : Nat} {xs : List Int} (h : Ints.Own w base g n cap xs) (o : Obj) : Ints.Own (w.alloc o) base g n cap xs := World.ownsRow.alloc h o
theorem lit0 (w : World) (base : Nat) {g : Nat} (hb : base ≤ w.heap.size) (hg : g = w.heap.size) : Ints.Own (w.alloc (.cells #[] 3)) base g 0 0 [] := by
  subst hg
  exact World.ownsRow_lit w #[] 0 hb (by decide) rfl
theorem wp_appI (u : World) {ops : Array Oper} {rest : List Oper} {o : Oper} {a : Act} {Q : Exit → Act → World → Prop} (hgd : o.guard = none) (s x : Operand)
    (ho : o.op = .call { callee := .builtin .append, args := #[s, x], argTypes := #[108, 108] }) (base g n cap : Nat) (xs : List Int) (vb : Nat) (y : Int)
    (hs : a.eval s = .slice (some ⟨g, 0, none⟩) n cap) (hx : a.eval x = .slice (some ⟨vb, 0, none⟩) 1 1) (hown : Ints.Own u base g n cap xs) (hv : u.cell? ⟨vb, 0, none⟩ = some (.int .i64 y)) (hn : n ≤ 1048576) (hb : base ≤ u.heap.size)
    (h : ∀ g' c' w', Ints.Own w' base g' (n + 1) c' (xs ++ [y]) → u.grownBy w' (some g) → (g' = g ∨ g' = u.heap.size) → wpList Tryz.prog ops Q rest (a.put o.dst (.slice (some ⟨g', 0, none⟩) (n + 1) c')) w') : wpList Tryz.prog ops Q (o :: rest) a u := by
  obtain ⟨i0, hi, hz0, hz1, hz2⟩ := info_parts Ints.info3
  refine wpList_append_own_at u hgd s x 108 ho base 3 i0 (.int .i64 0) 1 8 Tryz.underlying108 hi hz0 hz1 hz2 rfl (by decide) _ n _ hs hown ⟨vb, 0, none⟩ 1 1 [.int .i64 y] hx rfl (fun j v hj => by
    cases j with
    | zero =>
      have e : v = .int .i64 y := by simpa using hj.symm
      rw [e]
      simpa [Addr.add] using hv
    | succ j => simp at hj) (by simp [Value.oneCell']) (by unfold maxLen; omega) (by omega) hb ?_
  intro v' w' own' gr' nil' loc'
  obtain ⟨g', c', rfl, o'⟩ := own_of_row (n' := n + 1) (xs := xs ++ [y]) own' rfl (by simp) (by rw [nil']; simp)
  exact h g' c' w' o' gr' (by simpa [Value.ownBlock] using loc')
set_option maxRecDepth 100000 in
set_option maxHeartbeats 2000000 in
theorem sShort (w : World) (x : Bx) (h : Rd w x) :
    Calls Tryz.prog 82 #[.agg #[.slice (some ⟨x.ga, 0, none⟩) x.b.ac.length x.ca, .slice (some ⟨x.gi, 0, none⟩) x.b.ic.length x.ci, .slice (some ⟨x.gb, 0, none⟩) x.b.bs.length x.cb, .slice (some ⟨x.gl, 0, none⟩) x.b.ls.length x.cl, .slice (some ⟨x.gt, 0, none⟩) x.b.ts.length x.ct, .int .i64 x.b.lot]] w fun e w' => ∃ g c, e = .returned (.slice (some ⟨g, 0, none⟩) (shortL x.b.ac).length c) ∧ Ints.Own w' w.heap.size g (shortL x.b.ac).length c (shortL x.b.ac) ∧ Below w.heap.size w w' := by
  have na := h.na
  have la := h.la
  have R0 := hide ((h.alloc (.cells #[.slice (some ⟨x.ga, 0, none⟩) x.b.ac.length x.ca, .slice (some ⟨x.gi, 0, none⟩) x.b.ic.length x.ci, .slice (some ⟨x.gb, 0, none⟩) x.b.bs.length x.cb, .slice (some ⟨x.gl, 0, none⟩) x.b.ls.length x.cl, .slice (some ⟨x.gt, 0, none⟩) x.b.ts.length x.ct, .int .i64 x.b.lot] 36)).alloc (.cells #[] 3))
  have O0 := hide (lit0 (w.alloc (.cells #[.slice (some ⟨x.ga, 0, none⟩) x.b.ac.length x.ca, .slice (some ⟨x.gi, 0, none⟩) x.b.ic.length x.ci, .slice (some ⟨x.gb, 0, none⟩) x.b.bs.length x.cb, .slice (some ⟨x.gl, 0, none⟩) x.b.ls.length x.cl, .slice (some ⟨x.gt, 0, none⟩) x.b.ts.length x.ct, .int .i64 x.b.lot] 36)) (w.heap.size + 1) (g := w.heap.size + 1) (by simp) (by simp))
  have C0 := hide ((boxed w x 36).below (IBalsFit.one_more _ (.cells #[] 3)) (by simp))
  have B0 := hide (show Below w.heap.size w ((w.alloc (.cells #[.slice (some ⟨x.ga, 0, none⟩) x.b.ac.length x.ca, .slice (some ⟨x.gi, 0, none⟩) x.b.ic.length x.ci, .slice (some ⟨x.gb, 0, none⟩) x.b.bs.length x.cb, .slice (some ⟨x.gl, 0, none⟩) x.b.ls.length x.cl, .slice (some ⟨x.gt, 0, none⟩) x.b.ts.length x.ct, .int .i64 x.b.lot] 36)).alloc (.cells #[] 3)) from ((Below.refl _ _).alloc (Nat.le_refl _) _).alloc (by simp) _)
  have s0 : ((w.alloc (.cells #[.slice (some ⟨x.ga, 0, none⟩) x.b.ac.length x.ca, .slice (some ⟨x.gi, 0, none⟩) x.b.ic.length x.ci, .slice (some ⟨x.gb, 0, none⟩) x.b.bs.length x.cb, .slice (some ⟨x.gl, 0, none⟩) x.b.ls.length x.cl, .slice (some ⟨x.gt, 0, none⟩) x.b.ts.length x.ct, .int .i64 x.b.lot] 36)).alloc (.cells #[] 3)).heap.size = w.heap.size + 1 + 1 := by simp
  clear h
  go_enter Tryz.func82, Tryz.ntmps82
  go_wp2
  generalize (w.alloc (.cells #[.slice (some ⟨x.ga, 0, none⟩) x.b.ac.length x.ca, .slice (some ⟨x.gi, 0, none⟩) x.b.ic.length x.ci, .slice (some ⟨x.gb, 0, none⟩) x.b.bs.length x.cb, .slice (some ⟨x.gl, 0, none⟩) x.b.ls.length x.cl, .slice (some ⟨x.gt, 0, none⟩) x.b.ts.length x.ct, .int .i64 x.b.lot] 36)).alloc (.cells #[] 3) = w0 at *
  go_loopw [3, 4] (fun l j wr => ∃ (p : List Int) (g1 c1 k : Nat), l = .slice (some ⟨g1, 0, none⟩) p.length c1 ∧ j = .int .i64 k ∧ k ≤ x.b.ac.length ∧ p.length ≤ k ∧ Hid (p = shortL (x.b.ac.take k)) ∧ Hid (Ints.Own wr (w.heap.size + 1) g1 p.length c1 p) ∧ Hid (Below (w.heap.size + 1) w0 wr)) (fun _ j _ => x.b.ac.length - (intOf j).toNat)
  case atStart => exact ⟨[], w.heap.size + 1, 0, 0, rfl, rfl, by omega, by simp, hide rfl, O0, hide (Below.refl _ _)⟩
  case round =>
    clear O0
    obtain ⟨p, g1, c1, k, rfl, rfl, hk, pl, HP, H1, HB⟩ := hrel
    have bs := (unhide HB).size
    obtain ⟨c0, _, _, _, _, _⟩ := (unhide C0).below (unhide HB) (by omega)
    by_cases t : k < x.b.ac.length
    · obtain ⟨e0, e1⟩ := (unhide R0).ra.below (unhide HB) (by omega) k t
      have NP := hide (short_next (ps := x.b.ac) (k := k) t)
      rw [← unhide HP] at NP
      obtain ⟨no, hno⟩ : ∃ no, Hid ((x.b.ac.getD k (0, 0)).1 = no) := ⟨_, rfl⟩
      obtain ⟨kd, hkd⟩ : ∃ kd, Hid ((x.b.ac.getD k (0, 0)).2 = kd) := ⟨_, rfl⟩
      rw [unhide hno] at e0
      rw [unhide hkd] at e1
      have NQ := hide (show shortL (x.b.ac.take (k + 1)) = p ++ (if kd = 1 then [] else [no]) from by
        first | (rw [unhide NP, ← unhide hno, ← unhide hkd]; done) | (rw [unhide NP, ← unhide hno, ← unhide hkd]; rfl))
      clear NP hno hkd
      by_cases own : kd = 1
      · have NP1 : Hid (shortL (x.b.ac.take (k + 1)) = p) := hide (by rw [unhide NQ, if_pos own, List.append_nil])
        clear NQ
        subst own
        go_wp2
        go_roundw
        case rel => exact ⟨p, g1, c1, k + 1, rfl, by go_num, by omega, by omega, hide (unhide NP1).symm, H1, HB⟩
        case measure => simp [intOf]; omega
      · have NP1 : Hid (shortL (x.b.ac.take (k + 1)) = p ++ [no]) := hide (by rw [unhide NQ, if_neg own])
        have ob : (kd != 1) = true := by simpa using own
        clear NQ own
        go_wp2_with (first | (at_builtin; refine wp_appI _ rfl _ _ rfl (w.heap.size + 1) g1 p.length c1 p wr.heap.size no rfl rfl (own_alloc (unhide H1) _) (by simp) (by omega) (by simp; omega) ?_) | go_in)
        intro g5 c5 w5 o5 gr5 loc5
        have O5 := hide o5
        have B5 := hide (((unhide HB).alloc (by omega) (.cells #[.int .i64 no] 3)).grown gr5 (by simp; omega) (fun j hj => by cases hj; exact (unhide H1).lt.1))
        clear o5 gr5 loc5
        go_wp2
        go_roundw
        case rel => exact ⟨p ++ [no], g5, c5, k + 1, by rw [show (p ++ [no]).length = p.length + 1 by simp], by go_num, by omega, by simp; omega, hide (unhide NP1).symm, hide (by rw [show (p ++ [no]).length = p.length + 1 by simp]; exact unhide O5), B5⟩
        case measure => simp [intOf]; omega
    · obtain rfl : k = x.b.ac.length := by omega
      have EP := hide (show p = shortL x.b.ac by rw [unhide HP, List.take_of_length_le (by omega)])
      clear HP
      go_wp2
      go_ret
      rw [← unhide EP]
      exact ⟨g1, c1, rfl, (unhide H1).mono (by omega), (unhide B0).trans ((unhide HB).mono (by omega))⟩
end Go.Proofs.YtpdgljjndgikoaaGreat.Shorts
namespace Go.Proofs.YtpdgljjndgikoaaGreat.SBk
open Go.ChangeShapes Go.WideShapes Go.ChangeAt Go.RowKit BMem Bks ILists BHelp Ans
open Post2 (PostAnswers)
open IBalsFit (one_more)
open ILotsFit (below_of_drew)
open Lots (Says says_of NoOk)
open Bals (T3)
open Tup5 (T5)
structure SV (w W : World) (x : Bx) : Prop where
  x : Box W w.heap.size w.heap.size (.slice (some ⟨x.ga, 0, none⟩) x.b.ac.length x.ca) (.slice (some ⟨x.gi, 0, none⟩) x.b.ic.length x.ci) (.slice (some ⟨x.gb, 0, none⟩) x.b.bs.length x.cb) (.slice (some ⟨x.gl, 0, none⟩) x.b.ls.length x.cl) (.slice (some ⟨x.gt, 0, none⟩) x.b.ts.length x.ct) (.int .i64 x.b.lot)
  v : Box W w.heap.size (w.heap.size + 1) (.slice none 0 0) (.slice none 0 0) (.slice none 0 0) (.slice none 0 0) (.slice none 0 0) (.int .i64 0)
  b : Below w.heap.size w W
theorem SV.start (w : World) (x : Bx) : SV w ((w.alloc (.cells #[.slice (some ⟨x.ga, 0, none⟩) x.b.ac.length x.ca, .slice (some ⟨x.gi, 0, none⟩) x.b.ic.length x.ci, .slice (some ⟨x.gb, 0, none⟩) x.b.bs.length x.cb, .slice (some ⟨x.gl, 0, none⟩) x.b.ls.length x.cl, .slice (some ⟨x.gt, 0, none⟩) x.b.ts.length x.ct, .int .i64 x.b.lot] 36)).alloc (.cells #[.slice none 0 0, .slice none 0 0, .slice none 0 0, .slice none 0 0, .slice none 0 0, .int .i64 0] 36)) x :=
  ⟨World.ownsRow.alloc (Box.made (w := w) (base := w.heap.size) (g := w.heap.size) _ _ _ _ _ _ (Nat.le_refl _) rfl) _, Box.made _ _ _ _ _ _ (by simp) (by simp), ((Below.refl w.heap.size w).alloc (Nat.le_refl _) _).alloc (by simp) _⟩
theorem SV.step {w W W' : World} {x : Bx} (h : SV w W x) (k : Below W.heap.size W W') : SV w W' x := by
  have l := h.v.lt
  exact ⟨h.x.below k (by omega), h.v.below k (by omega), h.b.trans (k.mono h.b.size)⟩
theorem SV.six {w W : World} {x : Bx} (h : SV w W x) : W.cell? ⟨w.heap.size, 0, none⟩ = some (.slice (some ⟨x.ga, 0, none⟩) x.b.ac.length x.ca) ∧ W.cell? ⟨w.heap.size, 1, none⟩ = some (.slice (some ⟨x.gi, 0, none⟩) x.b.ic.length x.ci) ∧ W.cell? ⟨w.heap.size, 2, none⟩ = some (.slice (some ⟨x.gb, 0, none⟩) x.b.bs.length x.cb) ∧ W.cell? ⟨w.heap.size, 3, none⟩ = some (.slice (some ⟨x.gl, 0, none⟩) x.b.ls.length x.cl) ∧ W.cell? ⟨w.heap.size, 4, none⟩ = some (.slice (some ⟨x.gt, 0, none⟩) x.b.ts.length x.ct) ∧ W.cell? ⟨w.heap.size, 5, none⟩ = some (.int .i64 x.b.lot) := ⟨h.x.c0, h.x.c1, h.x.c2, h.x.c3, h.x.c4, h.x.c5⟩
abbrev withB (x : Bx) (g c : Nat) (qs : List T3) : Bx := { x with gb := g, cb := c, b := { x.b with bs := qs } }
abbrev withL (x : Bx) (g c : Nat) (qs : List T5) (lot : Int) : Bx := { x with gl := g, cl := c, b := { x.b with ls := qs, lot := lot } }
theorem ow_withB {w : World} {base g c : Nat} {x : Bx} {qs : List T3} (h : Ow w base x) (o : Triples.Own3 98 w base g qs.length c qs) : Ow w base (withB x g c qs) := ⟨h.oa, h.oi, o, h.ol, h.ot⟩
theorem ow_withL {w : World} {base g c : Nat} {x : Bx} {qs : List T5} {lot : Int} (h : Ow w base x) (o : Tup5.Own5 102 w base g qs.length c qs) : Ow w base (withL x g c qs lot) := ⟨h.oa, h.oi, h.ob, o, h.ot⟩
theorem off_withB {x : Bx} {g c N p : Nat} {qs : List T3} (h : Up x N) (hp : N ≤ p) (hg : p < g) : Off (withB x g c qs) p := by
  unfold Up at h
  unfold Off withB
  simp
  omega
theorem off_withL {x : Bx} {g c N p : Nat} {qs : List T5} {lot : Int} (h : Up x N) (hp : N ≤ p) (hg : p < g) : Off (withL x g c qs lot) p := by
  unfold Up at h
  unfold Off withL
  simp
  omega
set_option maxRecDepth 100000 in
set_option maxHeartbeats 4000000 in
theorem sPost (w : World) (base : Nat) (x : Bx) (gL capL : Nat) (ls : List T3) (O : Ow w base x) (LI : Lists x.b) (s : Small x.b) (hl : ls.length ≤ 1048576) (hgL : gL < w.heap.size) (hL : Triples.At3 w gL ls) (hf : Bals.Formed ls) (he : Bals.Even ls) :
    Calls Tryz.prog 48 #[.agg #[.slice (some ⟨x.ga, 0, none⟩) x.b.ac.length x.ca, .slice (some ⟨x.gi, 0, none⟩) x.b.ic.length x.ci, .slice (some ⟨x.gb, 0, none⟩) x.b.bs.length x.cb, .slice (some ⟨x.gl, 0, none⟩) x.b.ls.length x.cl, .slice (some ⟨x.gt, 0, none⟩) x.b.ts.length x.ct, .int .i64 x.b.lot], .slice (some ⟨gL, 0, none⟩) ls.length capL] w fun e w' => ∃ (y : Bx) (c : Int), IsPosted x.b ls y.b c ∧ e = .returned (.tuple #[.agg #[.slice (some ⟨y.ga, 0, none⟩) y.b.ac.length y.ca, .slice (some ⟨y.gi, 0, none⟩) y.b.ic.length y.ci, .slice (some ⟨y.gb, 0, none⟩) y.b.bs.length y.cb, .slice (some ⟨y.gl, 0, none⟩) y.b.ls.length y.cl, .slice (some ⟨y.gt, 0, none⟩) y.b.ts.length y.ct, .int .i64 y.b.lot], .int .i64 c]) ∧ Ow w' base y ∧ Below w.heap.size w w' := by
  have R0 := hide (O.rd s)
  have O0 := hide O
  have U0 := hide (ow_up O)
  have L0 := hide hL
  have S1 := hide (SV.start w x)
  have PC := hide (fun qs c (hp : Bals.IsPost x.b.bs ls (shortL x.b.ac) qs c) => post_code hp LI.2.2.1 hf he (Nat.le_trans (short_len _) LI.1.1))
  have xl : (shortL x.b.ac).length ≤ 1048576 := Nat.le_trans (short_len _) s.1
  have nb := s.2.2.1
  have hb := O.oa.lt
  clear O hL hf he LI s
  go_enter Tryz.func48, Tryz.ntmps48
  go_wp2_with fail
  generalize ((w.alloc (.cells #[.slice (some ⟨x.ga, 0, none⟩) x.b.ac.length x.ca, .slice (some ⟨x.gi, 0, none⟩) x.b.ic.length x.ci, .slice (some ⟨x.gb, 0, none⟩) x.b.bs.length x.cb, .slice (some ⟨x.gl, 0, none⟩) x.b.ls.length x.cl, .slice (some ⟨x.gt, 0, none⟩) x.b.ts.length x.ct, .int .i64 x.b.lot] 36)).alloc (.cells #[.slice none 0 0, .slice none 0 0, .slice none 0 0, .slice none 0 0, .slice none 0 0, .int .i64 0] 36)) = w1 at *
  have K4 := (unhide S1).six
  go_region_held3 (fun w' => w'.cell? ⟨w.heap.size, 0, none⟩ = some (.slice (some ⟨x.ga, 0, none⟩) x.b.ac.length x.ca) ∧ w'.cell? ⟨w.heap.size, 1, none⟩ = some (.slice (some ⟨x.gi, 0, none⟩) x.b.ic.length x.ci) ∧ w'.cell? ⟨w.heap.size, 2, none⟩ = some (.slice (some ⟨x.gb, 0, none⟩) x.b.bs.length x.cb) ∧ w'.cell? ⟨w.heap.size, 3, none⟩ = some (.slice (some ⟨x.gl, 0, none⟩) x.b.ls.length x.cl) ∧ w'.cell? ⟨w.heap.size, 4, none⟩ = some (.slice (some ⟨x.gt, 0, none⟩) x.b.ts.length x.ct) ∧ w'.cell? ⟨w.heap.size, 5, none⟩ = some (.int .i64 x.b.lot)) (first | exact K4 | exact K5 | exact K6)
    (first | (go_at_call 82; refine (Shorts.sShort w1.drew x ((unhide R0).below (unhide S1).b.drew)).mono ?_; rintro e w2 ⟨gS, cS, rfl, oS, bb⟩; have bW : Below w1.heap.size w1 w2 := below_of_drew bb; have S2 := hide ((unhide S1).step bW); have K5 := (unhide S2).six; have OS := hide oS; clear oS bb bW) | (go_at_call 81; refine (SPost.sBalsPost w2 x.gb _ x.cb gL _ capL gS _ cS x.b.bs ls (shortL x.b.ac) rfl rfl rfl nb hl xl ((unhide R0).below (unhide S2).b).lb (Nat.lt_of_lt_of_le hgL (unhide S2).b.size) (unhide OS).lt.2 ((unhide R0).below (unhide S2).b).rb ((unhide L0).below (unhide S2).b hgL) (unhide OS).at).mono ?_; rintro e w3 ⟨qs, pc, g5, k5, hp, rfl, o5, bb6⟩; have S3 := hide ((unhide S2).step bb6); have K6 := (unhide S3).six; have HP := hide hp; have O5 := hide o5; have z2 := (unhide S2).v.lt.2; clear hp o5 bb6))
  clear K4 K5 K6
  have OX := hide ((unhide O0).below (unhide S3).b (Nat.le_refl _))
  have g5l := (unhide O5).lt.1
  have c0 := (unhide S3).x.c0
  have c1 := (unhide S3).x.c1
  have c2 := (unhide S3).x.c2
  have c3 := (unhide S3).x.c3
  have c4 := (unhide S3).x.c4
  have c5 := (unhide S3).x.c5
  have r0 := (unhide S3).v.c0
  have r1 := (unhide S3).v.c1
  have r2 := (unhide S3).v.c2
  have r3 := (unhide S3).v.c3
  have r4 := (unhide S3).v.c4
  have r5 := (unhide S3).v.c5
  have f0 := (unhide S3).v.free 0
  have f1 := (unhide S3).v.free 1
  have f2 := (unhide S3).v.free 2
  have f3 := (unhide S3).v.free 3
  have f4 := (unhide S3).v.free 4
  have f5 := (unhide S3).v.free 5
  have x2 := (unhide S3).x.free 2
  have BW := hide (unhide S3).b
  rcases (unhide PC) _ _ (unhide HP) with rfl | rfl | rfl | rfl
  · have IS := hide (show IsPosted x.b ls (withB x g5 k5 qs).b 0 from ⟨qs, 0, unhide HP, .inl ⟨rfl, rfl, rfl⟩⟩)
    have OY := hide (ow_withB (unhide OX) ((unhide O5).rebase (base' := base) (by have := (unhide OX).oa.lt; omega)))
    have F1 := hide (off_withB (c := k5) (qs := qs) (unhide U0) (Nat.le_refl w.heap.size) (show w.heap.size < g5 by omega))
    have F2 := hide (off_withB (c := k5) (qs := qs) (unhide U0) (Nat.le_add_right w.heap.size 1) (show w.heap.size + 1 < g5 by omega))
    go_wp2
    refine bodyPost_ret (v := .tuple #[.agg #[.slice (some ⟨x.ga, 0, none⟩) x.b.ac.length x.ca, .slice (some ⟨x.gi, 0, none⟩) x.b.ic.length x.ci, .slice (some ⟨g5, 0, none⟩) qs.length k5, .slice (some ⟨x.gl, 0, none⟩) x.b.ls.length x.cl, .slice (some ⟨x.gt, 0, none⟩) x.b.ts.length x.ct, .int .i64 x.b.lot], .int .i64 0]) (by simp [results, Tryz.results48, go_sem, r0, r1, r2, r3, r4, r5]) rfl ⟨withB x g5 k5 qs, 0, unhide IS, rfl, ?_, ?_⟩
    · exact ow_six (ow_set (unhide OY) (unhide F1) 2 _) (unhide F2) _ _ _ _ _ _
    · exact Ans.six ((unhide BW).setCell (p := ⟨w.heap.size, 2, none⟩) (Nat.le_refl _) _) (by omega) _ _ _ _ _ _
  · have IS := hide (show IsPosted x.b ls x.b 5 from ⟨qs, 3, unhide HP, .inr (.inl ⟨rfl, rfl, rfl⟩)⟩)
    go_wp2
    refine bodyPost_ret (v := .tuple #[.agg #[.slice (some ⟨x.ga, 0, none⟩) x.b.ac.length x.ca, .slice (some ⟨x.gi, 0, none⟩) x.b.ic.length x.ci, .slice (some ⟨x.gb, 0, none⟩) x.b.bs.length x.cb, .slice (some ⟨x.gl, 0, none⟩) x.b.ls.length x.cl, .slice (some ⟨x.gt, 0, none⟩) x.b.ts.length x.ct, .int .i64 x.b.lot], .int .i64 5]) (by simp [results, Tryz.results48, go_sem, r0, r1, r2, r3, r4, r5]) rfl ⟨x, 5, unhide IS, rfl, ?_, ?_⟩
    · exact ow_six (unhide OX) (off_up (unhide U0) (by omega)) _ _ _ _ _ _
    · exact Ans.six (unhide BW) (by omega) _ _ _ _ _ _
  · have IS := hide (show IsPosted x.b ls x.b 8 from ⟨qs, 4, unhide HP, .inr (.inr (.inl ⟨rfl, rfl, rfl⟩))⟩)
    go_wp2
    refine bodyPost_ret (v := .tuple #[.agg #[.slice (some ⟨x.ga, 0, none⟩) x.b.ac.length x.ca, .slice (some ⟨x.gi, 0, none⟩) x.b.ic.length x.ci, .slice (some ⟨x.gb, 0, none⟩) x.b.bs.length x.cb, .slice (some ⟨x.gl, 0, none⟩) x.b.ls.length x.cl, .slice (some ⟨x.gt, 0, none⟩) x.b.ts.length x.ct, .int .i64 x.b.lot], .int .i64 8]) (by simp [results, Tryz.results48, go_sem, r0, r1, r2, r3, r4, r5]) rfl ⟨x, 8, unhide IS, rfl, ?_, ?_⟩
    · exact ow_six (unhide OX) (off_up (unhide U0) (by omega)) _ _ _ _ _ _
    · exact Ans.six (unhide BW) (by omega) _ _ _ _ _ _
  · have IS := hide (show IsPosted x.b ls x.b 7 from ⟨qs, 5, unhide HP, .inr (.inr (.inr ⟨rfl, rfl, rfl⟩))⟩)
    go_wp2
    refine bodyPost_ret (v := .tuple #[.agg #[.slice (some ⟨x.ga, 0, none⟩) x.b.ac.length x.ca, .slice (some ⟨x.gi, 0, none⟩) x.b.ic.length x.ci, .slice (some ⟨x.gb, 0, none⟩) x.b.bs.length x.cb, .slice (some ⟨x.gl, 0, none⟩) x.b.ls.length x.cl, .slice (some ⟨x.gt, 0, none⟩) x.b.ts.length x.ct, .int .i64 x.b.lot], .int .i64 7]) (by simp [results, Tryz.results48, go_sem, r0, r1, r2, r3, r4, r5]) rfl ⟨x, 7, unhide IS, rfl, ?_, ?_⟩
    · exact ow_six (unhide OX) (off_up (unhide U0) (by omega)) _ _ _ _ _ _
    · exact Ans.six (unhide BW) (by omega) _ _ _ _ _ _
theorem open_cases (ok okl okn : Bool) : (ok = true ∧ okl = true ∧ okn = true) ∨ (SOpen.openC ok okl okn ≠ 0 ∧ ¬ (ok = true ∧ okl = true ∧ okn = true)) := by
  cases ok <;> cases okl <;> cases okn <;> simp [SOpen.openC]
set_option maxRecDepth 100000 in
set_option maxHeartbeats 4000000 in
theorem sOpenB (w : World) (base : Nat) (x : Bx) (a i q cost : Int) (O : Ow w base x) (hlot : 0 ≤ x.b.lot ∧ x.b.lot ≤ 1000000000) (s : Small x.b) :
    Calls Tryz.prog 85 #[.agg #[.slice (some ⟨x.ga, 0, none⟩) x.b.ac.length x.ca, .slice (some ⟨x.gi, 0, none⟩) x.b.ic.length x.ci, .slice (some ⟨x.gb, 0, none⟩) x.b.bs.length x.cb, .slice (some ⟨x.gl, 0, none⟩) x.b.ls.length x.cl, .slice (some ⟨x.gt, 0, none⟩) x.b.ts.length x.ct, .int .i64 x.b.lot], .int .i64 a, .int .i64 i, .int .i64 q, .int .i64 cost] w fun e w' => ∃ (y : Bx) (c : Int), IsOpen x.b a i q cost y.b c ∧ e = .returned (.tuple #[.agg #[.slice (some ⟨y.ga, 0, none⟩) y.b.ac.length y.ca, .slice (some ⟨y.gi, 0, none⟩) y.b.ic.length y.ci, .slice (some ⟨y.gb, 0, none⟩) y.b.bs.length y.cb, .slice (some ⟨y.gl, 0, none⟩) y.b.ls.length y.cl, .slice (some ⟨y.gt, 0, none⟩) y.b.ts.length y.ct, .int .i64 y.b.lot], .int .i64 c]) ∧ Ow w' base y ∧ Below w.heap.size w w' := by
  have R0 := hide (O.rd s)
  have O0 := hide O
  have U0 := hide (ow_up O)
  have S1 := hide (SV.start w x)
  have nl := s.2.2.2.1
  obtain ⟨l0, l1⟩ := hlot
  clear O s
  by_cases full : x.b.lot = 1000000000
  · have IS := hide (show IsOpen x.b a i q cost x.b 7 from .inr ⟨fun h => h.1 full, rfl, rfl⟩)
    have fb : (x.b.lot == 1000000000) = true := by simp [full]
    have OX := hide ((unhide O0).below (unhide S1).b (Nat.le_refl _))
    have BW := hide (unhide S1).b
    clear full
    go_enter Tryz.func85, Tryz.ntmps85
    go_wp2
    refine bodyPost_ret (v := .tuple #[.agg #[.slice (some ⟨x.ga, 0, none⟩) x.b.ac.length x.ca, .slice (some ⟨x.gi, 0, none⟩) x.b.ic.length x.ci, .slice (some ⟨x.gb, 0, none⟩) x.b.bs.length x.cb, .slice (some ⟨x.gl, 0, none⟩) x.b.ls.length x.cl, .slice (some ⟨x.gt, 0, none⟩) x.b.ts.length x.ct, .int .i64 x.b.lot], .int .i64 7]) (by simp [results, Tryz.results85, go_sem]) rfl ⟨x, 7, unhide IS, rfl, ?_, ?_⟩
    · exact (unhide O0).below (((Below.refl w.heap.size w).alloc (Nat.le_refl _) _).alloc (by simp) _) (Nat.le_refl _)
    · exact ((Below.refl w.heap.size w).alloc (Nat.le_refl _) _).alloc (by simp) _
  have fb : (x.b.lot == 1000000000) = false := by simpa using full
  have HF := hide full
  obtain ⟨ok, hok⟩ := says_of (Lots.Right x.b.ls)
  obtain ⟨okl, hkl⟩ := says_of (Lots.One (opened x.b a i q cost))
  obtain ⟨okn, hkn⟩ := says_of (Lots.Right (Lots.mergeL (x.b.ls.length + 1) x.b.ls [opened x.b a i q cost]))
  have HO := hide hok
  have HL := hide hkl
  have HN := hide hkn
  clear full hok hkl hkn
  go_enter Tryz.func85, Tryz.ntmps85
  go_wp2_with fail
  generalize ((w.alloc (.cells #[.slice (some ⟨x.ga, 0, none⟩) x.b.ac.length x.ca, .slice (some ⟨x.gi, 0, none⟩) x.b.ic.length x.ci, .slice (some ⟨x.gb, 0, none⟩) x.b.bs.length x.cb, .slice (some ⟨x.gl, 0, none⟩) x.b.ls.length x.cl, .slice (some ⟨x.gt, 0, none⟩) x.b.ts.length x.ct, .int .i64 x.b.lot] 36)).alloc (.cells #[.slice none 0 0, .slice none 0 0, .slice none 0 0, .slice none 0 0, .slice none 0 0, .int .i64 0] 36)) = w1 at *
  refine (SOpen.sOpen w1 x.gl _ x.cl x.b.ls _ a i (x.b.lot + 1) q cost ok okl okn (hide rfl) rfl nl ((unhide R0).below (unhide S1).b).ll ((unhide R0).below (unhide S1).b).rl (unhide HO) (unhide HL) (unhide HN)).mono ?_
  rintro e w2 ⟨g2, k2, rfl, o2, bb⟩
  have S2 := hide ((unhide S1).step bb)
  have OX := hide ((unhide O0).below (unhide S2).b (Nat.le_refl _))
  have BW := hide (unhide S2).b
  have O2 := hide o2
  have g2l := o2.lt.1
  have z1 := (unhide S1).v.lt.2
  have zb := (unhide O0).oa.lt
  clear o2 bb
  have c0 := (unhide S2).x.c0
  have c1 := (unhide S2).x.c1
  have c2 := (unhide S2).x.c2
  have c3 := (unhide S2).x.c3
  have c4 := (unhide S2).x.c4
  have c5 := (unhide S2).x.c5
  have r0 := (unhide S2).v.c0
  have r1 := (unhide S2).v.c1
  have r2 := (unhide S2).v.c2
  have r3 := (unhide S2).v.c3
  have r4 := (unhide S2).v.c4
  have r5 := (unhide S2).v.c5
  have f0 := (unhide S2).v.free 0
  have f1 := (unhide S2).v.free 1
  have f2 := (unhide S2).v.free 2
  have f3 := (unhide S2).v.free 3
  have f4 := (unhide S2).v.free 4
  have f5 := (unhide S2).v.free 5
  have x3 := (unhide S2).x.free 3
  have x5 := (unhide S2).x.free 5
  rcases open_cases ok okl okn with ⟨rfl, rfl, rfl⟩ | ⟨hne, hno⟩
  · obtain ⟨R, hR⟩ : ∃ R, Hid (Lots.mergeL (x.b.ls.length + 1) x.b.ls [opened x.b a i q cost] = R) := ⟨_, rfl⟩
    have O2 := hide (show Tup5.Own5 102 w2 w1.heap.size g2 R.length k2 R from by rw [← unhide hR]; exact unhide O2)
    have IS := hide (show IsOpen x.b a i q cost (withL x g2 k2 R (x.b.lot + 1)).b 0 from .inl ⟨⟨unhide HF, (unhide HO).yes, (unhide HL).yes, (unhide HN).yes⟩, by rw [← unhide hR], rfl⟩)
    have OY := hide (ow_withL (lot := x.b.lot + 1) (unhide OX) ((unhide O2).rebase (base' := base) (by omega)))
    have F1 := hide (off_withL (c := k2) (qs := R) (lot := x.b.lot + 1) (unhide U0) (Nat.le_refl w.heap.size) (show w.heap.size < g2 by omega))
    have F2 := hide (off_withL (c := k2) (qs := R) (lot := x.b.lot + 1) (unhide U0) (Nat.le_add_right w.heap.size 1) (show w.heap.size + 1 < g2 by omega))
    rw [show (SOpen.openA x.b.ls (Lots.mergeL (x.b.ls.length + 1) x.b.ls [(a, i, x.b.lot + 1, q, cost)]) true true true).length = R.length from by rw [← unhide hR]; rfl, show SOpen.openC true true true = 0 from rfl]
    go_wp2
    refine bodyPost_ret (v := .tuple #[.agg #[.slice (some ⟨x.ga, 0, none⟩) x.b.ac.length x.ca, .slice (some ⟨x.gi, 0, none⟩) x.b.ic.length x.ci, .slice (some ⟨x.gb, 0, none⟩) x.b.bs.length x.cb, .slice (some ⟨g2, 0, none⟩) R.length k2, .slice (some ⟨x.gt, 0, none⟩) x.b.ts.length x.ct, .int .i64 (x.b.lot + 1)], .int .i64 0]) (by simp [results, Tryz.results85, go_sem, r0, r1, r2, r3, r4, r5]) rfl ⟨withL x g2 k2 R (x.b.lot + 1), 0, unhide IS, rfl, ?_, ?_⟩
    · exact ow_six (ow_set (ow_set (unhide OY) (unhide F1) 3 _) (unhide F1) 5 _) (unhide F2) _ _ _ _ _ _
    · exact Ans.six (((unhide BW).setCell (p := ⟨w.heap.size, 3, none⟩) (Nat.le_refl _) _).setCell (p := ⟨w.heap.size, 5, none⟩) (Nat.le_refl _) _) (by omega) _ _ _ _ _ _
  · have IS := hide (show IsOpen x.b a i q cost x.b 7 from .inr ⟨fun h => hno ⟨(unhide HO).of h.2.1, (unhide HL).of h.2.2.1, (unhide HN).of h.2.2.2⟩, rfl, rfl⟩)
    obtain ⟨c, hc⟩ : ∃ c, Hid (SOpen.openC ok okl okn = c) := ⟨_, rfl⟩
    have cb : (c != 0) = true := by rw [← unhide hc]; simpa using hne
    rw [unhide hc]
    clear hne hno
    go_wp2
    refine bodyPost_ret (v := .tuple #[.agg #[.slice (some ⟨x.ga, 0, none⟩) x.b.ac.length x.ca, .slice (some ⟨x.gi, 0, none⟩) x.b.ic.length x.ci, .slice (some ⟨x.gb, 0, none⟩) x.b.bs.length x.cb, .slice (some ⟨x.gl, 0, none⟩) x.b.ls.length x.cl, .slice (some ⟨x.gt, 0, none⟩) x.b.ts.length x.ct, .int .i64 x.b.lot], .int .i64 7]) (by simp [results, Tryz.results85, go_sem, r0, r1, r2, r3, r4, r5]) rfl ⟨x, 7, unhide IS, rfl, ?_, ?_⟩
    · exact ow_six (unhide OX) (off_up (unhide U0) (by omega)) _ _ _ _ _ _
    · exact Ans.six (unhide BW) (by omega) _ _ _ _ _ _
end Go.Proofs.YtpdgljjndgikoaaGreat.SBk
namespace Go.Proofs.YtpdgljjndgikoaaGreat.SIssue
open Go.ChangeShapes Go.WideShapes Go.ChangeAt Go.RowKit BMem Bks ILists BHelp Ans SBk
open IBalsFit (one_more)
open Lots (Says says_of NoOk)
open Quieter (Near near_is quiet_near)
open Bals (T3)
open Tup5 (T5)
theorem posted_small {b b' : Bk} {ls : List T3} {c : Int} (h : IsPosted b ls b' c) (s : Small b) : Small b' := by
  obtain ⟨qs, pc, hp, ⟨_, rfl, _⟩ | ⟨_, rfl, _⟩ | ⟨_, rfl, _⟩ | ⟨_, rfl, _⟩⟩ := h
  · have := hp.len
    obtain ⟨a, b, c, d, e⟩ := s
    exact ⟨a, b, by simp; omega, d, e⟩
  all_goals exact s
theorem posted_lot {b b' : Bk} {ls : List T3} {c : Int} (h : IsPosted b ls b' c) : b'.lot = b.lot ∧ b'.ls = b.ls ∧ b'.ac = b.ac ∧ b'.ic = b.ic := by
  obtain ⟨qs, pc, hp, ⟨_, rfl, _⟩ | ⟨_, rfl, _⟩ | ⟨_, rfl, _⟩ | ⟨_, rfl, _⟩⟩ := h
  all_goals exact ⟨rfl, rfl, rfl, rfl⟩
theorem row_ne {w : World} {base base' : Nat} {e e' : TypeId} {size size' g n cap g' n' cap' : Nat} {xs xs' : List Value} (h : w.ownsRow base e size (.slice (some ⟨g, 0, none⟩) n cap) n xs) (k : w.ownsRow base' e' size' (.slice (some ⟨g', 0, none⟩) n' cap') n' xs') (ne : e ≠ e') : g ≠ g' := by
  rintro rfl
  rcases h.2 with ⟨h1, _⟩ | ⟨g1, c1, cur1, h1, h2, h3, _⟩
  · simp at h1
  rcases k.2 with ⟨k1, _⟩ | ⟨g2, c2, cur2, k1, k2, k3, _⟩
  · simp at k1
  obtain ⟨rfl, _⟩ : g = g1 ∧ cap = c1 := by simpa using h1
  obtain ⟨rfl, _⟩ : g = g2 ∧ cap' = c2 := by simpa using k1
  rw [h3] at k3
  injection k3 with k3
  injection k3 with _ k3
  exact ne k3
theorem off_box {w : World} {base base' p : Nat} {y : Bx} {v0 v1 v2 v3 v4 v5 : Value} (O : Ow w base y) (B : Box w base' p v0 v1 v2 v3 v4 v5) : Off y p :=
  ⟨row_ne O.oa B (by decide), row_ne O.oi B (by decide), row_ne O.ob B (by decide), row_ne O.ol B (by decide), row_ne O.ot B (by decide)⟩
theorem SR.grown {w W W' : World} {x : Bx} {p : Nat} (H : Rd w x) (h : SR w W x) (k : W.grownBy W' (some p)) (hp : w.heap.size + 1 < p) : SR w W' x := by
  have b : Below w.heap.size w W' := h.b.grown k h.b.size (fun j e => by injection e; omega)
  have n0 : some w.heap.size ≠ some p := fun e => by injection e; omega
  exact ⟨H.below b, ⟨k.cell h.c.c0 n0, k.cell h.c.c1 n0, k.cell h.c.c2 n0, k.cell h.c.c3 n0, k.cell h.c.c4 n0, k.cell h.c.c5 n0⟩, h.v.kept k (fun e => by injection e; omega), b⟩
theorem six_alloc {B : Nat} {a w : World} {g : Nat} (h : Below B a w) (hB : B ≤ w.heap.size) (hg : B ≤ g) (u0 u1 u2 u3 u4 u5 : Value) (o : Obj) : Below B a (((((((w.setCell ⟨g, 0, none⟩ u0).setCell ⟨g, 1, none⟩ u1).setCell ⟨g, 2, none⟩ u2).setCell ⟨g, 3, none⟩ u3).setCell ⟨g, 4, none⟩ u4).setCell ⟨g, 5, none⟩ u5).alloc o) :=
  (six h hg u0 u1 u2 u3 u4 u5).alloc (by simpa using hB) o
theorem ow_six_alloc {w : World} {base base' : Nat} {z : Bx} {g : Nat} (h : Ow w base z) (off : Off z g) (hb : base' ≤ base) (u0 u1 u2 u3 u4 u5 : Value) (o : Obj) : Ow (((((((w.setCell ⟨g, 0, none⟩ u0).setCell ⟨g, 1, none⟩ u1).setCell ⟨g, 2, none⟩ u2).setCell ⟨g, 3, none⟩ u3).setCell ⟨g, 4, none⟩ u4).setCell ⟨g, 5, none⟩ u5).alloc o) base' z :=
  (ow_alloc (ow_six h off u0 u1 u2 u3 u4 u5) o).rebase hb
theorem box_six_alloc {w : World} {base g : Nat} {v0 v1 v2 v3 v4 v5 : Value} (h : Box w base g v0 v1 v2 v3 v4 v5) (u0 u1 u2 u3 u4 u5 : Value) (o : Obj) : Box (((((((w.setCell ⟨g, 0, none⟩ u0).setCell ⟨g, 1, none⟩ u1).setCell ⟨g, 2, none⟩ u2).setCell ⟨g, 3, none⟩ u3).setCell ⟨g, 4, none⟩ u4).setCell ⟨g, 5, none⟩ u5).alloc o) base g u0 u1 u2 u3 u4 u5 := World.ownsRow.alloc (box_six h u0 u1 u2 u3 u4 u5).1 o
theorem to_wb {P : Program} {fn : Func} {R : Ending → World → Prop} {ex : Exit} {a : Act} {W : World} (Pr : World → Prop) (h : Pr W) (k : ∀ W, Pr W → bodyPost P fn R ex a W) : bodyPost P fn R ex a W := k W h
theorem ne_true {a b : Int} (h : a ≠ b) : (a != b) = true := by simpa using h
theorem eq_false {a b : Int} (h : ¬ a = b) : (a == b) = false := by simpa using h
end Go.Proofs.YtpdgljjndgikoaaGreat.SIssue
namespace Go.Proofs.YtpdgljjndgikoaaGreat.TBox
open Go.ChangeShapes Go.WideShapes Go.ChangeAt Go.RowKit BMem Bks ILists BHelp Ans Trd
open Tup8 (T8 el8 Own8)
open SIssue (row_ne)
def Box8 (w : World) (base g : Nat) (p : T8) : Prop := w.ownsRow base 57 8 (.slice (some ⟨g, 0, none⟩) 1 1) 1 [.int .i64 p.1, .int .i64 p.2.1, .int .i64 p.2.2.1, .int .i64 p.2.2.2.1, .int .i64 p.2.2.2.2.1, .int .i64 p.2.2.2.2.2.1, .int .i64 p.2.2.2.2.2.2.1, .int .i64 p.2.2.2.2.2.2.2]
theorem Box8.made {w : World} {base g : Nat} (p : T8) (hb : base ≤ w.heap.size) (hg : g = w.heap.size) : Box8 (w.alloc (.cells #[.int .i64 p.1, .int .i64 p.2.1, .int .i64 p.2.2.1, .int .i64 p.2.2.2.1, .int .i64 p.2.2.2.2.1, .int .i64 p.2.2.2.2.2.1, .int .i64 p.2.2.2.2.2.2.1, .int .i64 p.2.2.2.2.2.2.2] 57)) base g p := by
  subst hg
  exact World.ownsRow_lit w #[.int .i64 p.1, .int .i64 p.2.1, .int .i64 p.2.2.1, .int .i64 p.2.2.2.1, .int .i64 p.2.2.2.2.1, .int .i64 p.2.2.2.2.2.1, .int .i64 p.2.2.2.2.2.2.1, .int .i64 p.2.2.2.2.2.2.2] 1 hb (by decide) rfl
section
variable {w w' : World} {base g : Nat} {p : T8}
theorem Box8.lt (h : Box8 w base g p) : base ≤ g ∧ g < w.heap.size := World.ownsRow.lt h g rfl
theorem Box8.free (h : Box8 w base g p) (i : Nat) : w.frozen? ⟨g, i, none⟩ = false := World.ownsRow.frozenAt h i
theorem Box8.c0 (h : Box8 w base g p) : w.cell? ⟨g, 0, none⟩ = some (.int .i64 p.1) := (World.ownsRow.cellAt h 0 (by omega)).trans rfl
theorem Box8.c1 (h : Box8 w base g p) : w.cell? ⟨g, 1, none⟩ = some (.int .i64 p.2.1) := (World.ownsRow.cellAt h 1 (by omega)).trans rfl
theorem Box8.c2 (h : Box8 w base g p) : w.cell? ⟨g, 2, none⟩ = some (.int .i64 p.2.2.1) := (World.ownsRow.cellAt h 2 (by omega)).trans rfl
theorem Box8.c3 (h : Box8 w base g p) : w.cell? ⟨g, 3, none⟩ = some (.int .i64 p.2.2.2.1) := (World.ownsRow.cellAt h 3 (by omega)).trans rfl
theorem Box8.c4 (h : Box8 w base g p) : w.cell? ⟨g, 4, none⟩ = some (.int .i64 p.2.2.2.2.1) := (World.ownsRow.cellAt h 4 (by omega)).trans rfl
theorem Box8.c5 (h : Box8 w base g p) : w.cell? ⟨g, 5, none⟩ = some (.int .i64 p.2.2.2.2.2.1) := (World.ownsRow.cellAt h 5 (by omega)).trans rfl
theorem Box8.c6 (h : Box8 w base g p) : w.cell? ⟨g, 6, none⟩ = some (.int .i64 p.2.2.2.2.2.2.1) := (World.ownsRow.cellAt h 6 (by omega)).trans rfl
theorem Box8.c7 (h : Box8 w base g p) : w.cell? ⟨g, 7, none⟩ = some (.int .i64 p.2.2.2.2.2.2.2) := (World.ownsRow.cellAt h 7 (by omega)).trans rfl
theorem Box8.below {B : Nat} (h : Box8 w base g p) (k : Below B w w') (hg : g < B) : Box8 w' base g p := by
  refine ⟨h.1, ?_⟩
  rcases h.2 with ⟨h1, _⟩ | ⟨g', c, cur, h1, h2, h3, h4⟩
  · simp at h1
  · obtain ⟨e, _⟩ : g = g' ∧ 1 = c := by simpa using h1
    subst e
    exact Or.inr ⟨g, c, cur, h1, h2, by rw [k.block g hg]; exact h3, h4⟩
theorem Box8.kept {row : Option Nat} (h : Box8 w base g p) (k : w.grownBy w' row) (hne : some g ≠ row) : Box8 w' base g p := World.ownsRow.kept h k (Or.inr hne)
theorem Box8.alloc (h : Box8 w base g p) (o : Obj) : Box8 (w.alloc o) base g p := World.ownsRow.alloc h o
end
abbrev withS (x : Bx) (k : Nat) (s : Int) : Bx := { x with b := { x.b with ts := setState x.b.ts k s } }
theorem ow_state {w : World} {base : Nat} {x : Bx} (h : Ow w base x) (k : Nat) (s : Int) : Ow (w.setCell ⟨x.gt, k * 8 + 7, none⟩ (.int .i64 s)) base (withS x k s) := by
  have a := row_ne h.oa h.ot (by decide)
  have b := row_ne h.oi h.ot (by decide)
  have c := row_ne h.ob h.ot (by decide)
  have d := row_ne h.ol h.ot (by decide)
  refine ⟨row_set h.oa a _ _, row_set h.oi b _ _, row_set h.ob c _ _, row_set h.ol d _ _, ?_⟩
  have := (h.ot.set7 k s).1
  show Own8 57 _ base x.gt (setState x.b.ts k s).length x.ct (setState x.b.ts k s)
  rw [set_len]
  exact this
theorem state_grown {w : World} {base : Nat} {x : Bx} (h : Ow w base x) (k : Nat) (s : Int) : w.grownBy (w.setCell ⟨x.gt, k * 8 + 7, none⟩ (.int .i64 s)) (some x.gt) := (h.ot.set7 k s).2
end Go.Proofs.YtpdgljjndgikoaaGreat.TBox
namespace Go.Proofs.YtpdgljjndgikoaaGreat.LegApp
open Go.ChangeShapes Go.WideShapes Go.ChangeAt Go.RowKit Bals Triples
theorem info2 : (Tryz.prog.info? 144).map (fun i => (i.zero, i.size, i.bytes)) = some (some (.agg #[.int .i64 0, .int .i64 0, .int .i64 0]), 3, 24) := by kernel_rfl
end Go.Proofs.YtpdgljjndgikoaaGreat.LegApp
namespace Go.Proofs.YtpdgljjndgikoaaGreat.SLegs
open Go.ChangeShapes Go.WideShapes Go.ChangeAt Go.RowKit BMem Bks ILists Trd
open Bals (T3)
open Tup8 (T8 el8)
open Triples (Own3 At3 flat3 flat3_len flat3_one flat3_append own3_of_row)
theorem own_pair (w : World) (a c i q : Int) : Own3 144 (w.alloc (.cells #[.int .i64 a, .int .i64 i, .int .i64 (-q), .int .i64 c, .int .i64 i, .int .i64 q] 144)) w.heap.size w.heap.size 2 2 (pairL a c i q) :=
  World.ownsRow_lit w #[.int .i64 a, .int .i64 i, .int .i64 (-q), .int .i64 c, .int .i64 i, .int .i64 q] 2 (Nat.le_refl _) (by decide) rfl
set_option maxRecDepth 100000 in
theorem sPairO (w : World) (a c i q : Int) (q1 : 0 ≤ q) (q2 : q ≤ 1000000000000000) :
    Calls Tryz.prog 83 #[.int .i64 a, .int .i64 c, .int .i64 i, .int .i64 q] w fun e w' => ∃ g, e = .returned (.slice (some ⟨g, 0, none⟩) 2 2) ∧ Own3 144 w' w.heap.size g 2 2 (pairL a c i q) ∧ Below w.heap.size w w' := by
  have A := hide (own_pair w a c i q)
  go_enter Tryz.func83, Tryz.ntmps83
  go_wp2
  go_ret
  exact ⟨w.heap.size, rfl, unhide A, (Below.refl _ _).alloc (Nat.le_refl _) _⟩
theorem step_cat3 (u : World) {ops : Array Oper} {o : Oper} {a : Act} {K : Act → World → Prop} {Q : Exit → Act → World → Prop} {E : Prop} (hgd : o.guard = none) (s x : Operand)
    (ho : o.op = .call { callee := .builtin .append, args := #[s, x], argTypes := #[82, 82] }) (base g n cap m : Nat) (ps qs : List T3) (vb c : Nat)
    (hs : a.eval s = .slice (some ⟨g, 0, none⟩) n cap) (hx : a.eval x = .slice (some ⟨vb, 0, none⟩) m c) (hown : Own3 144 u base g n cap ps) (hl : qs.length = m) (hv : At3 u vb qs) (hn : n + m ≤ 1048576) (hb : base ≤ u.heap.size)
    (h : ∀ g' c' w', Own3 144 w' base g' (n + m) c' (ps ++ qs) → u.grownBy w' (some g) → (g' = g ∨ g' = u.heap.size) → K (a.put o.dst (.slice (some ⟨g', 0, none⟩) (n + m) c')) w') : if Region.wanted o (yielded ops a.tmps) = true then Oper.wp Tryz.prog o a u K Q else E := by
  obtain ⟨i0, hi, hz0, hz1, hz2⟩ := info_parts LegApp.info2
  have hw : Region.wanted o (yielded ops a.tmps) = true := by simp [Region.wanted, hgd]
  rw [if_pos hw]
  obtain ⟨v', w', hr, own', gr', nil', loc'⟩ := run_append_own_at (P := Tryz.prog) u base 82 o.type 144 i0 (.agg #[.int .i64 0, .int .i64 0, .int .i64 0]) 3 24 Tryz.underlying82 hi hz0 hz1 hz2 rfl (by decide) (.slice (some ⟨g, 0, none⟩) n cap) n (flat3 ps) hown ⟨vb, 0, none⟩ m c (flat3 qs) (by rw [flat3_len, hl]) hv.cells (fun u hu => flat3_one u _ hu) (by unfold maxLen; omega) (by omega) hb
  unfold Oper.wp execOp
  simp only [ho, resolve, invoke, builtin, Sem.run_bind, Sem.run_pure, Result.andThen_ok, List.map_toArray, List.map_cons, List.map_nil, hs, hx, hr]
  obtain ⟨g', c', rfl, o'⟩ := own3_of_row (n' := n + m) (ps := ps ++ qs) own' rfl (by rw [flat3_append]) (by rw [nil']; simp)
  exact h g' c' w' o' gr' (by simpa [Value.ownBlock] using loc')
def Six8 (w : World) (g : Nat) (b s p q c r : Int) : Prop := w.cell? ⟨g, 1, none⟩ = some (.int .i64 b) ∧ w.cell? ⟨g, 2, none⟩ = some (.int .i64 s) ∧ w.cell? ⟨g, 3, none⟩ = some (.int .i64 p) ∧ w.cell? ⟨g, 4, none⟩ = some (.int .i64 q) ∧ w.cell? ⟨g, 5, none⟩ = some (.int .i64 c) ∧ w.cell? ⟨g, 6, none⟩ = some (.int .i64 r)
theorem Six8.below {w w' : World} {g B : Nat} {b s p q c r : Int} (h : Six8 w g b s p q c r) (k : Below B w w') (hg : g < B) : Six8 w' g b s p q c r :=
  ⟨(k.cell (p := ⟨g, 1, none⟩) hg).trans h.1, (k.cell (p := ⟨g, 2, none⟩) hg).trans h.2.1, (k.cell (p := ⟨g, 3, none⟩) hg).trans h.2.2.1, (k.cell (p := ⟨g, 4, none⟩) hg).trans h.2.2.2.1, (k.cell (p := ⟨g, 5, none⟩) hg).trans h.2.2.2.2.1, (k.cell (p := ⟨g, 6, none⟩) hg).trans h.2.2.2.2.2⟩
set_option maxRecDepth 100000 in
set_option maxHeartbeats 4000000 in
theorem sLegs (w : World) (n b s p q c r st : Int) (q1 : 0 ≤ q) (q2 : q ≤ 1000000000000000) (r1 : 0 ≤ r) (r2 : r ≤ 1000000000000000) :
    Calls Tryz.prog 49 #[.agg #[.int .i64 n, .int .i64 b, .int .i64 s, .int .i64 p, .int .i64 q, .int .i64 c, .int .i64 r, .int .i64 st]] w fun e w' => ∃ g cap, e = .returned (.slice (some ⟨g, 0, none⟩) 4 cap) ∧ Own3 144 w' w.heap.size g 4 cap (legsT (n, b, s, p, q, c, r, st)) ∧ Below w.heap.size w w' := by
  have B0 := hide (show Below w.heap.size w (w.alloc (.cells #[.int .i64 n, .int .i64 b, .int .i64 s, .int .i64 p, .int .i64 q, .int .i64 c, .int .i64 r, .int .i64 st] 57)) from (Below.refl _ _).alloc (Nat.le_refl _) _)
  have C0 := hide (show Six8 (w.alloc (.cells #[.int .i64 n, .int .i64 b, .int .i64 s, .int .i64 p, .int .i64 q, .int .i64 c, .int .i64 r, .int .i64 st] 57)) w.heap.size b s p q c r from by simp [Six8])
  have z0 : w.heap.size < (w.alloc (.cells #[.int .i64 n, .int .i64 b, .int .i64 s, .int .i64 p, .int .i64 q, .int .i64 c, .int .i64 r, .int .i64 st] 57)).heap.size := by simp
  have M1 := trivial
  go_enter Tryz.func49, Tryz.ntmps49
  go_wp2_with fail
  generalize w.alloc (.cells #[.int .i64 n, .int .i64 b, .int .i64 s, .int .i64 p, .int .i64 q, .int .i64 c, .int .i64 r, .int .i64 st] 57) = w1 at *
  have K4 := unhide C0
  unfold Six8 at K4
  go_region_held3 (fun w' => w'.cell? ⟨w.heap.size, 1, none⟩ = some (.int .i64 b) ∧ w'.cell? ⟨w.heap.size, 2, none⟩ = some (.int .i64 s) ∧ w'.cell? ⟨w.heap.size, 3, none⟩ = some (.int .i64 p) ∧ w'.cell? ⟨w.heap.size, 4, none⟩ = some (.int .i64 q) ∧ w'.cell? ⟨w.heap.size, 5, none⟩ = some (.int .i64 c) ∧ w'.cell? ⟨w.heap.size, 6, none⟩ = some (.int .i64 r)) (first | exact K4 | exact K5 | exact K6 | exact K7)
    (first | (go_at_call 83; clear M1; refine (sPairO w1.drew b s c r r1 r2).mono ?_; rintro e u1 ⟨g1, rfl, o1, bb⟩; have bW := hide (show Below w1.heap.size w1 u1 from ILotsFit.below_of_drew bb); have K5 := (unhide C0).below (unhide bW) z0; unfold Six8 at K5; have O1 := hide (show Own3 144 u1 w1.heap.size g1 2 2 (pairL b s c r) from o1); have z1 := (unhide bW).size; clear bb o1) | (go_at_call 83; refine (sPairO u1 s b p q q1 q2).mono ?_; rintro e u2 ⟨g2, rfl, o2, bb2⟩; have bX := hide ((unhide bW).trans (bb2.mono z1)); have K6 := (unhide C0).below (unhide bX) z0; unfold Six8 at K6; have O2 := hide o2; have O3 := hide ((unhide O1).below bb2 (unhide O1).lt.2); have z2 := bb2.size; clear bb2 o2) | (refine step_cat3 _ (by rfl) _ _ (by rfl) w1.heap.size g1 2 2 2 (pairL b s c r) (pairL s b p q) g2 2 (by rfl) (by rfl) (by exact unhide O3) (by rfl) (by exact (unhide O2).at) (by omega) (by omega) ?_; intro g3 c3 w3 o3 gr3 loc3; have g1l := (unhide O3).lt.1; have BZ := hide ((unhide bX).grown gr3 (by omega) (fun j hj => by cases hj; exact g1l)); have K7 := (unhide C0).below (unhide BZ) z0; unfold Six8 at K7; have O4 := hide o3; clear o3 gr3 loc3))
  go_wp2
  go_ret
  exact ⟨g3, c3, rfl, (unhide O4).rebase (by have := (unhide O4).lt.1; omega), (unhide B0).trans ((unhide BZ).mono (by omega))⟩
end Go.Proofs.YtpdgljjndgikoaaGreat.SLegs
namespace Go.Proofs.YtpdgljjndgikoaaGreat.SCarry
open Go.ChangeShapes Go.WideShapes Go.ChangeAt Go.RowKit BMem Bks ILists BHelp Ans SBk
open SIssue (six_alloc ow_six_alloc box_six_alloc to_wb off_box ne_true)
open IBalsFit (one_more)
open Lots (Says says_of NoOk)
open Bals (T3)
open Tup5 (T5)
theorem taken_cases (bad short : Bool) : (bad = false ∧ short = false) ∨ (STake.takeD bad short ≠ 0 ∧ ¬ (bad = false ∧ short = false)) := by
  cases bad <;> cases short <;> simp [STake.takeD]
theorem says_false {p : Prop} (h : ¬ p) : Says false p := ⟨fun e => Bool.noConfusion e, fun r => absurd r h⟩
theorem taken_len {b : Bk} {a i q way : Int} (h : CanTake b a i q way) (s : Small b) : (takenL b a i q way).length ≤ 1048576 := by
  have := ITake.take_len (ps := b.ls) (R := takenL b a i q way) (a := a) (i := i) (q := q) (way := way) (bad := false) (short := false) (says_false (fun n => n ⟨h.1, h.2.1, h.2.2.1⟩)) (says_false h.2.2.2) rfl
  exact Nat.le_trans this (by omega)
theorem took_lot {b b2 : Bk} {a i q way k2 c2 : Int} (h : IsTake b a i q way b2 k2 c2) (s : Small b) : b2.lot = b.lot ∧ b2.ls.length ≤ 1048576 := by
  rcases h with ⟨h, rfl, _⟩ | ⟨_, rfl, _⟩
  · exact ⟨rfl, taken_len h s⟩
  · exact ⟨rfl, s.2.2.2.1⟩
end Go.Proofs.YtpdgljjndgikoaaGreat.SCarry
namespace Go.Proofs.YtpdgljjndgikoaaGreat.SMove
open Go.ChangeShapes Go.WideShapes Go.ChangeAt Go.RowKit BMem Bks ILists BHelp Ans SBk
open IBalsFit (one_more)
open Lots (Says says_of NoOk)
open Quieter (Near near_is quiet_near)
open Bals (T3)
open Tup5 (T5)
open SIssue (posted_small posted_lot six_alloc ow_six_alloc box_six_alloc to_wb off_box ne_true eq_false)
def AnsM (told : Prop) (P : Bk → Int → Int → Prop) (w : World) (e : Ending) (w' : World) : Prop :=
  (¬ told ∧ e = .returned (.tuple #[.agg #[.slice none 0 0, .slice none 0 0, .slice none 0 0, .slice none 0 0, .slice none 0 0, .int .i64 0], .int .i64 0, .int .i64 1]) ∧ Below w.heap.size w w') ∨
  (told ∧ ∃ (z : Bx) (t c : Int), P z.b t c ∧ e = .returned (.tuple #[.agg #[.slice (some ⟨z.ga, 0, none⟩) z.b.ac.length z.ca, .slice (some ⟨z.gi, 0, none⟩) z.b.ic.length z.ci, .slice (some ⟨z.gb, 0, none⟩) z.b.bs.length z.cb, .slice (some ⟨z.gl, 0, none⟩) z.b.ls.length z.cl, .slice (some ⟨z.gt, 0, none⟩) z.b.ts.length z.ct, .int .i64 z.b.lot], .int .i64 t, .int .i64 c]) ∧ Ow w' w.heap.size z ∧ Below w.heap.size w w')
end Go.Proofs.YtpdgljjndgikoaaGreat.SMove
namespace Go.Proofs.YtpdgljjndgikoaaGreat.SCarryP
open Go.ChangeShapes Go.WideShapes Go.ChangeAt Go.RowKit BMem Bks ILists BHelp Ans SBk
open SCarry (taken_cases taken_len took_lot)
open SIssue (six_alloc ow_six_alloc box_six_alloc to_wb off_box ne_true)
open IBalsFit (one_more)
open Lots (Says says_of NoOk)
open Bals (T3)
open Tup5 (T5)
open Tup8 (T8 el8)
open Trd (legsT)
def CarriedP (b : Bk) (x y i q way pr : Int) (b' : Bk) (t c : Int) : Prop :=
  ∃ b2 k2 c2, IsTake b x i q way b2 k2 c2 ∧ ((c2 ≠ 0 ∧ t = 0 ∧ c = c2) ∨ (c2 = 0 ∧ IsOpen b2 y i q pr b' c ∧ t = k2))
theorem pair_formed0 {a c i q : Int} (ha : NoOk a) (hc : NoOk c) (hi : NoOk i) (q1 : 0 ≤ q) (q2 : q ≤ 1000000000000000) : ∀ p ∈ pairL a c i q, NoOk p.1 ∧ NoOk p.2.1 ∧ Bals.Amt p.2.2 := by
  intro p hp
  simp only [pairL, List.mem_cons, List.not_mem_nil, or_false] at hp
  rcases hp with rfl | rfl
  · exact ⟨ha, hi, by unfold Bals.Amt; simp; omega⟩
  · exact ⟨hc, hi, by unfold Bals.Amt; simp; omega⟩
theorem legs_formed {t : T8} (h : TOne t) : Bals.Formed (legsT t) := by
  obtain ⟨h1, h2, h3, h4, h5, h6, h7, h8, h9⟩ := h
  have a := pair_formed0 h2 h3 h5 h8.1 h8.2
  have b := pair_formed0 h3 h2 h4 (by omega) h7.2
  refine ⟨by simp [legsT, pairL], fun k hk => ?_⟩
  have m : Bals.el3 (legsT t) k ∈ legsT t := Bals.getD_mem hk
  rcases List.mem_append.1 m with m | m
  · exact a _ m
  · exact b _ m
theorem legs_even (t : T8) : Bals.Even (legsT t) := by
  intro j
  unfold legsT
  rw [Bals.sumI_append, pair_even _ _ _ _ j, pair_even _ _ _ _ j]
  rfl
set_option maxRecDepth 100000 in
set_option maxHeartbeats 4000000 in
theorem sCarryP (w : World) (base : Nat) (x : Bx) (fa fb fi fq fk pr : Int) (hpr : 0 ≤ pr) (O : Ow w base x) (hlot : 0 ≤ x.b.lot ∧ x.b.lot ≤ 1000000000) (s : Small x.b) :
    Calls Tryz.prog 50 #[.agg #[.slice (some ⟨x.ga, 0, none⟩) x.b.ac.length x.ca, .slice (some ⟨x.gi, 0, none⟩) x.b.ic.length x.ci, .slice (some ⟨x.gb, 0, none⟩) x.b.bs.length x.cb, .slice (some ⟨x.gl, 0, none⟩) x.b.ls.length x.cl, .slice (some ⟨x.gt, 0, none⟩) x.b.ts.length x.ct, .int .i64 x.b.lot], .int .i64 fa, .int .i64 fb, .int .i64 fi, .int .i64 fq, .int .i64 fk, .int .i64 pr] w fun e w' => ∃ (y : Bx) (t c : Int), CarriedP x.b fa fb fi fq fk pr y.b t c ∧ e = .returned (.tuple #[.agg #[.slice (some ⟨y.ga, 0, none⟩) y.b.ac.length y.ca, .slice (some ⟨y.gi, 0, none⟩) y.b.ic.length y.ci, .slice (some ⟨y.gb, 0, none⟩) y.b.bs.length y.cb, .slice (some ⟨y.gl, 0, none⟩) y.b.ls.length y.cl, .slice (some ⟨y.gt, 0, none⟩) y.b.ts.length y.ct, .int .i64 y.b.lot], .int .i64 t, .int .i64 c]) ∧ Ow w' base y ∧ Below w.heap.size w w' := by
  obtain ⟨bad, hbad⟩ := says_of (¬ STake.TakeOk x.b.ls fq fk)
  obtain ⟨short, hshort⟩ := says_of (Takes.sumQ (Lots.ownL x.b.ls fa fi) < fq)
  have hpn : decide (pr < 0) = false := decide_eq_false (by omega)
  have HB := hide hbad
  have HS := hide hshort
  have R0 := hide (O.rd s)
  have O0 := hide O
  have U0 := hide (ow_up O)
  have S1 := hide (SV.start w x)
  have SM := hide s
  have HL := hide hlot
  have nl := s.2.2.2.1
  clear O s hbad hshort hlot
  go_enter Tryz.func50, Tryz.ntmps50
  go_wp2_with fail
  generalize ((w.alloc (.cells #[.slice (some ⟨x.ga, 0, none⟩) x.b.ac.length x.ca, .slice (some ⟨x.gi, 0, none⟩) x.b.ic.length x.ci, .slice (some ⟨x.gb, 0, none⟩) x.b.bs.length x.cb, .slice (some ⟨x.gl, 0, none⟩) x.b.ls.length x.cl, .slice (some ⟨x.gt, 0, none⟩) x.b.ts.length x.ct, .int .i64 x.b.lot] 36)).alloc (.cells #[.slice none 0 0, .slice none 0 0, .slice none 0 0, .slice none 0 0, .slice none 0 0, .int .i64 0] 36)) = w1 at *
  refine (STake.sTake w1 x.gl _ x.cl x.b.ls (takenL x.b fa fi fq fk) fa fi fq fk bad short rfl nl ((unhide R0).below (unhide S1).b).ll ((unhide R0).below (unhide S1).b).rl (unhide HB) (unhide HS) (fun _ _ => rfl)).mono ?_
  rintro e w2 ⟨g2, k2, rfl, o2, bb⟩
  have S2 := hide ((unhide S1).step bb)
  have OX := hide ((unhide O0).below (unhide S2).b (Nat.le_refl _))
  have BW := hide (unhide S2).b
  have O2 := hide o2
  have g2l := o2.lt.1
  have z1 := (unhide S1).v.lt.2
  have zb := (unhide O0).oa.lt
  have z2 := (unhide S2).v.lt.2
  clear o2 bb
  have c0 := (unhide S2).x.c0
  have c1 := (unhide S2).x.c1
  have c2 := (unhide S2).x.c2
  have c3 := (unhide S2).x.c3
  have c4 := (unhide S2).x.c4
  have c5 := (unhide S2).x.c5
  have x3 := (unhide S2).x.free 3
  rcases taken_cases bad short with ⟨rfl, rfl⟩ | ⟨hne, hno⟩
  · have CT := hide (show CanTake x.b fa fi fq fk from by
      have hb := Classical.byContradiction (unhide HB).no
      exact ⟨hb.1, hb.2.1, hb.2.2, (unhide HS).no⟩)
    obtain ⟨R, hR⟩ : ∃ R, Hid (takenL x.b fa fi fq fk = R) := ⟨_, rfl⟩
    obtain ⟨ck, hck⟩ : ∃ ck, Hid (Takes.takeC fk (Lots.ownL x.b.ls fa fi) fq = ck) := ⟨_, rfl⟩
    have O2 := hide (show Tup5.Own5 102 w2 w1.heap.size g2 R.length k2 R from by rw [← unhide hR]; exact unhide O2)
    have OY := hide (ow_withL (lot := x.b.lot) (unhide OX) ((unhide O2).rebase (base' := base) (by omega)))
    have F1 := hide (off_withL (c := k2) (qs := R) (lot := x.b.lot) (unhide U0) (Nat.le_refl w.heap.size) (show w.heap.size < g2 by omega))
    have TK := hide (show IsTake x.b fa fi fq fk (withL x g2 k2 R x.b.lot).b ck 0 from .inl ⟨unhide CT, by rw [← unhide hR], (unhide hck).symm, rfl⟩)
    have SY := hide (show Small (withL x g2 k2 R x.b.lot).b from by
      have := taken_len (unhide CT) (unhide SM)
      rw [unhide hR] at this
      obtain ⟨a, b, c, d, e⟩ := unhide SM
      exact ⟨a, b, c, this, e⟩)
    rw [show (STake.takeA x.b.ls (takenL x.b fa fi fq fk) false false).length = R.length from by rw [← unhide hR]; rfl, show STake.takeK (Takes.takeC fk (Lots.ownL x.b.ls fa fi) fq) false false = ck from by rw [← unhide hck]; rfl, show STake.takeD false false = 0 from rfl]
    go_wp2_with fail
    refine (sOpenB _ base (withL x g2 k2 R x.b.lot) fb fi fq pr (ow_set (unhide OY) (unhide F1) 3 _) (unhide HL) (unhide SY)).mono ?_
    rintro e w3 ⟨y, c, ho, rfl, o3, bb⟩
    have V3 := hide (Box.below (row_set (unhide S2).v (show w.heap.size + 1 ≠ w.heap.size by omega) 3 (.slice (some ⟨g2, 0, none⟩) R.length k2)) bb (by simpa using z2))
    have B3 := hide (((unhide BW).setCell (p := ⟨w.heap.size, 3, none⟩) (Nat.le_refl _) _).trans (bb.mono (by simpa using (unhide BW).size)))
    have O3 := hide o3
    have HO := hide ho
    have F3 := hide (off_box o3 (unhide V3))
    have l3 := (unhide V3).lt.2
    have l4 : w.heap.size + 1 ≠ w3.heap.size := by omega
    clear bb o3 ho c0 c1 c2 c3 c4 c5 x3
    have r0 := (unhide V3).c0
    have r1 := (unhide V3).c1
    have r2 := (unhide V3).c2
    have r3 := (unhide V3).c3
    have r4 := (unhide V3).c4
    have r5 := (unhide V3).c5
    have f0 := (unhide V3).free 0
    have f1 := (unhide V3).free 1
    have f2 := (unhide V3).free 2
    have f3 := (unhide V3).free 3
    have f4 := (unhide V3).free 4
    have f5 := (unhide V3).free 5
    go_wp2
    refine to_wb (fun W => Box W w.heap.size (w.heap.size + 1) (.slice (some ⟨y.ga, 0, none⟩) y.b.ac.length y.ca) (.slice (some ⟨y.gi, 0, none⟩) y.b.ic.length y.ci) (.slice (some ⟨y.gb, 0, none⟩) y.b.bs.length y.cb) (.slice (some ⟨y.gl, 0, none⟩) y.b.ls.length y.cl) (.slice (some ⟨y.gt, 0, none⟩) y.b.ts.length y.ct) (.int .i64 y.b.lot) ∧ Below w.heap.size w W ∧ Ow W base y) ?_ ?_
    · exact ⟨box_six_alloc (unhide V3) _ _ _ _ _ _ _, six_alloc (unhide B3) (unhide B3).size (by omega) _ _ _ _ _ _ _, ow_six_alloc (unhide O3) (unhide F3) (Nat.le_refl _) _ _ _ _ _ _ _⟩
    rintro W ⟨X, B, OW⟩
    have p0 := X.c0
    have p1 := X.c1
    have p2 := X.c2
    have p3 := X.c3
    have p4 := X.c4
    have p5 := X.c5
    exact bodyPost_ret (v := .tuple #[.agg #[.slice (some ⟨y.ga, 0, none⟩) y.b.ac.length y.ca, .slice (some ⟨y.gi, 0, none⟩) y.b.ic.length y.ci, .slice (some ⟨y.gb, 0, none⟩) y.b.bs.length y.cb, .slice (some ⟨y.gl, 0, none⟩) y.b.ls.length y.cl, .slice (some ⟨y.gt, 0, none⟩) y.b.ts.length y.ct, .int .i64 y.b.lot], .int .i64 ck, .int .i64 c]) (by simp [results, Tryz.results50, go_sem, p0, p1, p2, p3, p4, p5]) rfl ⟨y, ck, c, ⟨_, ck, 0, unhide TK, .inr ⟨rfl, unhide HO, rfl⟩⟩, rfl, OW, B⟩
  · have CT := hide (show ¬ CanTake x.b fa fi fq fk from fun h => hno ⟨(unhide HB).not (fun r => r ⟨h.1, h.2.1, h.2.2.1⟩), (unhide HS).not h.2.2.2⟩)
    obtain ⟨c, hc⟩ : ∃ c, Hid (STake.takeD bad short = c) := ⟨_, rfl⟩
    have cb : (c != 0) = true := by rw [← unhide hc]; simpa using hne
    rw [unhide hc]
    clear hne hno
    have r0 := (unhide S2).v.c0
    have r1 := (unhide S2).v.c1
    have r2 := (unhide S2).v.c2
    have r3 := (unhide S2).v.c3
    have r4 := (unhide S2).v.c4
    have r5 := (unhide S2).v.c5
    have f0 := (unhide S2).v.free 0
    have f1 := (unhide S2).v.free 1
    have f2 := (unhide S2).v.free 2
    have f3 := (unhide S2).v.free 3
    have f4 := (unhide S2).v.free 4
    have f5 := (unhide S2).v.free 5
    go_wp2
    refine bodyPost_ret (v := .tuple #[.agg #[.slice (some ⟨x.ga, 0, none⟩) x.b.ac.length x.ca, .slice (some ⟨x.gi, 0, none⟩) x.b.ic.length x.ci, .slice (some ⟨x.gb, 0, none⟩) x.b.bs.length x.cb, .slice (some ⟨x.gl, 0, none⟩) x.b.ls.length x.cl, .slice (some ⟨x.gt, 0, none⟩) x.b.ts.length x.ct, .int .i64 x.b.lot], .int .i64 0, .int .i64 5]) (by simp [results, Tryz.results50, go_sem, r0, r1, r2, r3, r4, r5]) rfl ⟨x, 0, 5, ⟨x.b, 0, 5, .inr ⟨unhide CT, rfl, rfl, rfl⟩, .inl ⟨by omega, rfl, rfl⟩⟩, rfl, ?_, ?_⟩
    · exact ow_six (unhide OX) (off_up (unhide U0) (by omega)) _ _ _ _ _ _
    · exact Ans.six (unhide BW) (by omega) _ _ _ _ _ _
end Go.Proofs.YtpdgljjndgikoaaGreat.SCarryP
namespace Go.Proofs.YtpdgljjndgikoaaGreat.SSettle
open Go.ChangeShapes Go.WideShapes Go.ChangeAt Go.RowKit BMem Bks ILists BHelp Ans SBk Trd TBox
open IBalsFit (one_more)
open Lots (Says says_of NoOk)
open Tup8 (T8 el8 Own8)
open SIssue (posted_small posted_lot to_wb off_box eq_false ne_true)
open SMove (AnsM)
open SCarryP (CarriedP legs_formed legs_even)
def ToldS (b : Bk) (no fk : Int) : Prop := Ok b ∧ NoOk no ∧ (1 ≤ fk ∧ fk ≤ 3)
theorem hold14 {w W W' : World} {x : Bx} {p0 p1 p2 p3 p4 p5 p6 p7 : Int} {g : Nat} (A : SR w W x) (X : Box8 W w.heap.size g (p0, p1, p2, p3, p4, p5, p6, p7)) (k : Below W.heap.size W W') : W'.cell? ⟨w.heap.size, 0, none⟩ = some (.slice (some ⟨x.ga, 0, none⟩) x.b.ac.length x.ca) ∧ W'.cell? ⟨w.heap.size, 1, none⟩ = some (.slice (some ⟨x.gi, 0, none⟩) x.b.ic.length x.ci) ∧ W'.cell? ⟨w.heap.size, 2, none⟩ = some (.slice (some ⟨x.gb, 0, none⟩) x.b.bs.length x.cb) ∧ W'.cell? ⟨w.heap.size, 3, none⟩ = some (.slice (some ⟨x.gl, 0, none⟩) x.b.ls.length x.cl) ∧ W'.cell? ⟨w.heap.size, 4, none⟩ = some (.slice (some ⟨x.gt, 0, none⟩) x.b.ts.length x.ct) ∧ W'.cell? ⟨w.heap.size, 5, none⟩ = some (.int .i64 x.b.lot) ∧ W'.cell? ⟨g, 0, none⟩ = some (.int .i64 p0) ∧ W'.cell? ⟨g, 1, none⟩ = some (.int .i64 p1) ∧ W'.cell? ⟨g, 2, none⟩ = some (.int .i64 p2) ∧ W'.cell? ⟨g, 3, none⟩ = some (.int .i64 p3) ∧ W'.cell? ⟨g, 4, none⟩ = some (.int .i64 p4) ∧ W'.cell? ⟨g, 5, none⟩ = some (.int .i64 p5) ∧ W'.cell? ⟨g, 6, none⟩ = some (.int .i64 p6) ∧ W'.cell? ⟨g, 7, none⟩ = some (.int .i64 p7) := by
  have A' := A.step k
  have X' := X.below k X.lt.2
  exact ⟨A'.c.c0, A'.c.c1, A'.c.c2, A'.c.c3, A'.c.c4, A'.c.c5, X'.c0, X'.c1, X'.c2, X'.c3, X'.c4, X'.c5, X'.c6, X'.c7⟩
theorem posted_ts {b b' : Bk} {ls : List Bals.T3} {c : Int} (h : IsPosted b ls b' c) : b'.ts = b.ts := by
  obtain ⟨qs, pc, hp, ⟨_, rfl, _⟩ | ⟨_, rfl, _⟩ | ⟨_, rfl, _⟩ | ⟨_, rfl, _⟩⟩ := h
  all_goals rfl
theorem carried_ts {b b' : Bk} {x y i q way pr t : Int} (h : CarriedP b x y i q way pr b' t 0) : b'.ts = b.ts := by
  obtain ⟨b2, k2, c2, ht, ⟨hne, _, hc⟩ | ⟨rfl, ho, rfl⟩⟩ := h
  · exact absurd hc.symm hne
  · have e1 : b2.ts = b.ts := by
      rcases ht with ⟨_, rfl, _, _⟩ | ⟨_, rfl, _, _⟩ <;> rfl
    rcases ho with ⟨_, rfl, _⟩ | ⟨_, rfl, _⟩
    · exact e1
    · exact e1
theorem to_wc {K : Act → World → Prop} {a : Act} {W : World} (Pr : World → Prop) (h : Pr W) (k : ∀ W, Pr W → K a W) : K a W := k W h
theorem sPost4 (w : World) (base : Nat) (x : Bx) (gL capL : Nat) (t : T8) (O : Ow w base x) (LI : Lists x.b) (s : Small x.b) (o : Triples.Own3 144 w base gL 4 capL (legsT t)) (ht : TOne t) :
    Calls Tryz.prog 48 #[.agg #[.slice (some ⟨x.ga, 0, none⟩) x.b.ac.length x.ca, .slice (some ⟨x.gi, 0, none⟩) x.b.ic.length x.ci, .slice (some ⟨x.gb, 0, none⟩) x.b.bs.length x.cb, .slice (some ⟨x.gl, 0, none⟩) x.b.ls.length x.cl, .slice (some ⟨x.gt, 0, none⟩) x.b.ts.length x.ct, .int .i64 x.b.lot], .slice (some ⟨gL, 0, none⟩) 4 capL] w fun e w' => ∃ (y : Bx) (c : Int), IsPosted x.b (legsT t) y.b c ∧ e = .returned (.tuple #[.agg #[.slice (some ⟨y.ga, 0, none⟩) y.b.ac.length y.ca, .slice (some ⟨y.gi, 0, none⟩) y.b.ic.length y.ci, .slice (some ⟨y.gb, 0, none⟩) y.b.bs.length y.cb, .slice (some ⟨y.gl, 0, none⟩) y.b.ls.length y.cl, .slice (some ⟨y.gt, 0, none⟩) y.b.ts.length y.ct, .int .i64 y.b.lot], .int .i64 c]) ∧ Ow w' base y ∧ Below w.heap.size w w' :=
  sPost w base x gL capL (legsT t) O LI s (show 4 ≤ 1048576 by omega) o.lt.2 o.at (legs_formed ht) (legs_even t)
set_option maxRecDepth 100000 in
set_option maxHeartbeats 32000000 in
theorem sSettle (w : World) (x : Bx) (no fk : Int) (hr : Rd w x) :
    Calls Tryz.prog 12 #[.agg #[.slice (some ⟨x.ga, 0, none⟩) x.b.ac.length x.ca, .slice (some ⟨x.gi, 0, none⟩) x.b.ic.length x.ci, .slice (some ⟨x.gb, 0, none⟩) x.b.bs.length x.cb, .slice (some ⟨x.gl, 0, none⟩) x.b.ls.length x.cl, .slice (some ⟨x.gt, 0, none⟩) x.b.ts.length x.ct, .int .i64 x.b.lot], .int .i64 no, .int .i64 fk] w (AnsM (ToldS x.b no fk) (IsSettle x.b no fk) w) := by
  obtain ⟨b0, h0⟩ := says_of (Ok x.b)
  obtain ⟨b1, h1⟩ := says_of (NoOk no)
  obtain ⟨b2, h2⟩ := says_of (1 ≤ fk ∧ fk ≤ 3)
  have H0 := hide h0
  have H1 := hide h1
  have H2 := hide h2
  have S0 := hide (SR.start hr)
  have HR := hide hr
  clear h0 h1 h2 hr
  go_enter Tryz.func12, Tryz.ntmps12
  go_wp2_with fail
  refine (SBooksOk.sBooksOk _ x b0 (unhide S0).r (unhide H0)).mono ?_
  rintro e w1 ⟨rfl, bb⟩
  have S1 := hide ((unhide S0).step bb)
  have B1 := hide (unhide S1).b
  clear bb
  obtain ⟨c0, c1, c2, c3, c4, c5⟩ := (unhide S1).c
  have r0 := (unhide S1).v.c0
  have r1 := (unhide S1).v.c1
  have r2 := (unhide S1).v.c2
  have r3 := (unhide S1).v.c3
  have r4 := (unhide S1).v.c4
  have r5 := (unhide S1).v.c5
  have f0 := (unhide S1).v.free 0
  have f1 := (unhide S1).v.free 1
  have f2 := (unhide S1).v.free 2
  have f3 := (unhide S1).v.free 3
  have f4 := (unhide S1).v.free 4
  have f5 := (unhide S1).v.free 5
  cases b0
  · have N := hide (show ¬ ToldS x.b no fk from fun hh => (unhide H0).no hh.1)
    go_wp2
    refine bodyPost_ret (v := .tuple #[.agg #[.slice none 0 0, .slice none 0 0, .slice none 0 0, .slice none 0 0, .slice none 0 0, .int .i64 0], .int .i64 0, .int .i64 1]) (by simp [results, Tryz.results12, go_sem, r0, r1, r2, r3, r4, r5]) rfl (.inl ⟨unhide N, rfl, ?_⟩)
    exact six (unhide B1) (by omega) _ _ _ _ _ _
  go_wp2_with fail
  refine (SOk5.sNo no b1 _ (unhide H1)).mono ?_
  rintro e v1 ⟨rfl, rfl⟩
  cases b1
  · have N := hide (show ¬ ToldS x.b no fk from fun hh => (unhide H1).no hh.2.1)
    go_wp2
    refine bodyPost_ret (v := .tuple #[.agg #[.slice none 0 0, .slice none 0 0, .slice none 0 0, .slice none 0 0, .slice none 0 0, .int .i64 0], .int .i64 0, .int .i64 1]) (by simp [results, Tryz.results12, go_sem, r0, r1, r2, r3, r4, r5]) rfl (.inl ⟨unhide N, rfl, ?_⟩)
    exact six (unhide B1) (by omega) _ _ _ _ _ _
  go_wp2_with fail
  refine (SOk5.sIn fk 1 3 b2 _ (unhide H2)).mono ?_
  rintro e v2 ⟨rfl, rfl⟩
  cases b2
  · have N := hide (show ¬ ToldS x.b no fk from fun hh => (unhide H2).no hh.2.2)
    go_wp2
    refine bodyPost_ret (v := .tuple #[.agg #[.slice none 0 0, .slice none 0 0, .slice none 0 0, .slice none 0 0, .slice none 0 0, .int .i64 0], .int .i64 0, .int .i64 1]) (by simp [results, Tryz.results12, go_sem, r0, r1, r2, r3, r4, r5]) rfl (.inl ⟨unhide N, rfl, ?_⟩)
    exact six (unhide B1) (by omega) _ _ _ _ _ _
  have TT := hide (show ToldS x.b no fk from ⟨(unhide H0).yes, (unhide H1).yes, (unhide H2).yes⟩)
  have LI := hide (unhide H0).yes.1
  have SM := hide (ok_small (unhide H0).yes)
  have nt : x.b.ts.length ≤ 1048576 := (unhide HR).nt
  clear H0 H1 H2 S0
  go_wp2_with fail
  refine (STrd.sOpenAt _ x no (unhide S1).r).mono ?_
  rintro e w2 ⟨r, c, ho, rfl, bb⟩
  have S2 := hide ((unhide S1).step bb)
  clear bb
  clear c0 c1 c2 c3 c4 c5 r0 r1 r2 r3 r4 r5 f0 f1 f2 f3 f4 f5
  obtain ⟨c0, c1, c2, c3, c4, c5⟩ := (unhide S2).c
  have r0 := (unhide S2).v.c0
  have r1 := (unhide S2).v.c1
  have r2 := (unhide S2).v.c2
  have r3 := (unhide S2).v.c3
  have r4 := (unhide S2).v.c4
  have r5 := (unhide S2).v.c5
  have f0 := (unhide S2).v.free 0
  have f1 := (unhide S2).v.free 1
  have f2 := (unhide S2).v.free 2
  have f3 := (unhide S2).v.free 3
  have f4 := (unhide S2).v.free 4
  have f5 := (unhide S2).v.free 5
  rcases ho with ⟨hn, rfl, rfl⟩ | ⟨k, hk, rfl, ⟨hst, rfl⟩ | ⟨hst, rfl⟩⟩
  · have I3 := hide (show IsSettle x.b no fk x.b 0 3 from .inl ⟨hn, rfl, rfl, rfl⟩)
    clear hn
    go_wp2_with fail
    refine (SCopy.sCopy _ x (unhide S2).r).mono ?_
    rintro e w8 ⟨z, hz, rfl, oz, bb⟩
    have S8 := hide ((unhide S2).step bb)
    have OZ := hide (oz.rebase (unhide S2).b.size)
    have LZ := hide (ow_lo oz)
    have zl := (unhide S2).v.lt.2
    have IZ := hide (show IsSettle x.b no fk z.b 0 3 from by rw [hz]; exact (unhide I3))
    clear bb oz hz
    clear c0 c1 c2 c3 c4 c5 r0 r1 r2 r3 r4 r5 f0 f1 f2 f3 f4 f5
    obtain ⟨c0, c1, c2, c3, c4, c5⟩ := (unhide S8).c
    have r0 := (unhide S8).v.c0
    have r1 := (unhide S8).v.c1
    have r2 := (unhide S8).v.c2
    have r3 := (unhide S8).v.c3
    have r4 := (unhide S8).v.c4
    have r5 := (unhide S8).v.c5
    have f0 := (unhide S8).v.free 0
    have f1 := (unhide S8).v.free 1
    have f2 := (unhide S8).v.free 2
    have f3 := (unhide S8).v.free 3
    have f4 := (unhide S8).v.free 4
    have f5 := (unhide S8).v.free 5
    go_wp2
    refine bodyPost_ret (v := .tuple #[.agg #[.slice (some ⟨z.ga, 0, none⟩) z.b.ac.length z.ca, .slice (some ⟨z.gi, 0, none⟩) z.b.ic.length z.ci, .slice (some ⟨z.gb, 0, none⟩) z.b.bs.length z.cb, .slice (some ⟨z.gl, 0, none⟩) z.b.ls.length z.cl, .slice (some ⟨z.gt, 0, none⟩) z.b.ts.length z.ct, .int .i64 z.b.lot], .int .i64 0, .int .i64 3]) (by simp [results, Tryz.results12, go_sem, r0, r1, r2, r3, r4, r5]) rfl (.inr ⟨unhide TT, z, 0, 3, unhide IZ, rfl, ?_, ?_⟩)
    · exact ow_six (unhide OZ) (off_lo (unhide LZ) zl) _ _ _ _ _ _
    · exact six (unhide S8).b (by omega) _ _ _ _ _ _
  · have I3 := hide (show IsSettle x.b no fk x.b 0 6 from .inr ⟨k, hk, .inl ⟨hst, rfl, rfl, rfl⟩⟩)
    clear hk hst
    go_wp2_with fail
    refine (SCopy.sCopy _ x (unhide S2).r).mono ?_
    rintro e w8 ⟨z, hz, rfl, oz, bb⟩
    have S8 := hide ((unhide S2).step bb)
    have OZ := hide (oz.rebase (unhide S2).b.size)
    have LZ := hide (ow_lo oz)
    have zl := (unhide S2).v.lt.2
    have IZ := hide (show IsSettle x.b no fk z.b 0 6 from by rw [hz]; exact (unhide I3))
    clear bb oz hz
    clear c0 c1 c2 c3 c4 c5 r0 r1 r2 r3 r4 r5 f0 f1 f2 f3 f4 f5
    obtain ⟨c0, c1, c2, c3, c4, c5⟩ := (unhide S8).c
    have r0 := (unhide S8).v.c0
    have r1 := (unhide S8).v.c1
    have r2 := (unhide S8).v.c2
    have r3 := (unhide S8).v.c3
    have r4 := (unhide S8).v.c4
    have r5 := (unhide S8).v.c5
    have f0 := (unhide S8).v.free 0
    have f1 := (unhide S8).v.free 1
    have f2 := (unhide S8).v.free 2
    have f3 := (unhide S8).v.free 3
    have f4 := (unhide S8).v.free 4
    have f5 := (unhide S8).v.free 5
    go_wp2
    refine bodyPost_ret (v := .tuple #[.agg #[.slice (some ⟨z.ga, 0, none⟩) z.b.ac.length z.ca, .slice (some ⟨z.gi, 0, none⟩) z.b.ic.length z.ci, .slice (some ⟨z.gb, 0, none⟩) z.b.bs.length z.cb, .slice (some ⟨z.gl, 0, none⟩) z.b.ls.length z.cl, .slice (some ⟨z.gt, 0, none⟩) z.b.ts.length z.ct, .int .i64 z.b.lot], .int .i64 0, .int .i64 6]) (by simp [results, Tryz.results12, go_sem, r0, r1, r2, r3, r4, r5]) rfl (.inr ⟨unhide TT, z, 0, 6, unhide IZ, rfl, ?_, ?_⟩)
    · exact ow_six (unhide OZ) (off_lo (unhide LZ) zl) _ _ _ _ _ _
    · exact six (unhide S8).b (by omega) _ _ _ _ _ _
  have t := hk.1
  have KK := hide hk
  have HST := hide hst
  have TO := hide ((unhide LI).2.2.2.2.1.2 k t).1
  obtain ⟨d0, d1, d2, d3, d4, d5, d6, d7⟩ := (unhide S2).r.rt k t
  obtain ⟨p, hp⟩ : ∃ p, Hid (el8 x.b.ts k = p) := ⟨_, rfl⟩
  have HPP := hp
  rw [unhide hp] at TO HST d0 d1 d2 d3 d4 d5 d6 d7
  obtain ⟨p0, p1, p2, p3, p4, p5, p6, p7⟩ := p
  have T3 := hide (Box8.made (w := w2) (base := w.heap.size) (g := w2.heap.size) (p0, p1, p2, p3, p4, p5, p6, p7) (unhide S2).b.size rfl)
  have S3 := hide ((unhide S2).step (one_more w2 (.cells #[.int .i64 p0, .int .i64 p1, .int .i64 p2, .int .i64 p3, .int .i64 p4, .int .i64 p5, .int .i64 p6, .int .i64 p7] 57)))
  clear hk hst hp
  go_wp2_with fail
  generalize w2.alloc (.cells #[.int .i64 p0, .int .i64 p1, .int .i64 p2, .int .i64 p3, .int .i64 p4, .int .i64 p5, .int .i64 p6, .int .i64 p7] 57) = w3 at *
  have q1 : 0 ≤ p4 := by have := (unhide TO).2.2.2.2.2.2.1.1; simp at this; omega
  have q2 : p4 ≤ 1000000000000000 := (unhide TO).2.2.2.2.2.2.1.2
  have q3 : 0 ≤ p6 := (unhide TO).2.2.2.2.2.2.2.1.1
  have q4 : p6 ≤ 1000000000000000 := (unhide TO).2.2.2.2.2.2.2.1.2
  have t3 := (unhide T3).lt
  go_region_held3 (fun w' => w'.cell? ⟨w.heap.size, 0, none⟩ = some (.slice (some ⟨x.ga, 0, none⟩) x.b.ac.length x.ca) ∧ w'.cell? ⟨w.heap.size, 1, none⟩ = some (.slice (some ⟨x.gi, 0, none⟩) x.b.ic.length x.ci) ∧ w'.cell? ⟨w.heap.size, 2, none⟩ = some (.slice (some ⟨x.gb, 0, none⟩) x.b.bs.length x.cb) ∧ w'.cell? ⟨w.heap.size, 3, none⟩ = some (.slice (some ⟨x.gl, 0, none⟩) x.b.ls.length x.cl) ∧ w'.cell? ⟨w.heap.size, 4, none⟩ = some (.slice (some ⟨x.gt, 0, none⟩) x.b.ts.length x.ct) ∧ w'.cell? ⟨w.heap.size, 5, none⟩ = some (.int .i64 x.b.lot) ∧ w'.cell? ⟨w2.heap.size, 0, none⟩ = some (.int .i64 p0) ∧ w'.cell? ⟨w2.heap.size, 1, none⟩ = some (.int .i64 p1) ∧ w'.cell? ⟨w2.heap.size, 2, none⟩ = some (.int .i64 p2) ∧ w'.cell? ⟨w2.heap.size, 3, none⟩ = some (.int .i64 p3) ∧ w'.cell? ⟨w2.heap.size, 4, none⟩ = some (.int .i64 p4) ∧ w'.cell? ⟨w2.heap.size, 5, none⟩ = some (.int .i64 p5) ∧ w'.cell? ⟨w2.heap.size, 6, none⟩ = some (.int .i64 p6) ∧ w'.cell? ⟨w2.heap.size, 7, none⟩ = some (.int .i64 p7)) (first | exact hold14 (unhide S3) (unhide T3) (by repeat (first | with_reducible exact unhide cA | with_reducible exact unhide cB | with_reducible exact unhide cC | with_reducible exact unhide cD | with_reducible exact unhide cE | with_reducible exact unhide cF | with_reducible exact Below.refl _ _ | with_reducible refine Below.drew ?_ | (with_reducible refine Below.alloc ?_ ?hle _; case hle => first | exact Nat.le_refl _ | omega | (simp; omega) | simp) | (with_reducible refine Ans.six ?_ ?hle _ _ _ _ _ _; case hle => first | exact Nat.le_refl _ | omega | (simp; omega)))) | exact hold14 (unhide A1) (unhide X1) (by repeat (first | with_reducible exact unhide cA | with_reducible exact unhide cB | with_reducible exact unhide cC | with_reducible exact unhide cD | with_reducible exact unhide cE | with_reducible exact unhide cF | with_reducible exact Below.refl _ _ | with_reducible refine Below.drew ?_ | (with_reducible refine Below.alloc ?_ ?hle _; case hle => first | exact Nat.le_refl _ | omega | (simp; omega) | simp) | (with_reducible refine Ans.six ?_ ?hle _ _ _ _ _ _; case hle => first | exact Nat.le_refl _ | omega | (simp; omega)))) | exact hold14 (unhide A2) (unhide X2) (by repeat (first | with_reducible exact unhide cA | with_reducible exact unhide cB | with_reducible exact unhide cC | with_reducible exact unhide cD | with_reducible exact unhide cE | with_reducible exact unhide cF | with_reducible exact Below.refl _ _ | with_reducible refine Below.drew ?_ | (with_reducible refine Below.alloc ?_ ?hle _; case hle => first | exact Nat.le_refl _ | omega | (simp; omega) | simp) | (with_reducible refine Ans.six ?_ ?hle _ _ _ _ _ _; case hle => first | exact Nat.le_refl _ | omega | (simp; omega)))) | exact hold14 (unhide A3) (unhide X3) (by repeat (first | with_reducible exact unhide cA | with_reducible exact unhide cB | with_reducible exact unhide cC | with_reducible exact unhide cD | with_reducible exact unhide cE | with_reducible exact unhide cF | with_reducible exact Below.refl _ _ | with_reducible refine Below.drew ?_ | (with_reducible refine Below.alloc ?_ ?hle _; case hle => first | exact Nat.le_refl _ | omega | (simp; omega) | simp) | (with_reducible refine Ans.six ?_ ?hle _ _ _ _ _ _; case hle => first | exact Nat.le_refl _ | omega | (simp; omega)))))
    (first | (go_at_call 21; refine (SCopy.sCopy _ x ((unhide S3).r.below (by repeat (first | with_reducible exact unhide cA | with_reducible exact unhide cB | with_reducible exact unhide cC | with_reducible exact unhide cD | with_reducible exact unhide cE | with_reducible exact unhide cF | with_reducible exact Below.refl _ _ | with_reducible refine Below.drew ?_ | (with_reducible refine Below.alloc ?_ ?hle _; case hle => first | exact Nat.le_refl _ | omega | (simp; omega) | simp) | (with_reducible refine Ans.six ?_ ?hle _ _ _ _ _ _; case hle => first | exact Nat.le_refl _ | omega | (simp; omega)))))).mono ?_; rintro e u1 ⟨z, hz, rfl, oz, bb⟩; have BB1 := hide bb; have cA := hide (show Below w3.heap.size w3 u1 from Below.trans (by repeat (first | with_reducible exact unhide cA | with_reducible exact unhide cB | with_reducible exact unhide cC | with_reducible exact unhide cD | with_reducible exact unhide cE | with_reducible exact unhide cF | with_reducible exact Below.refl _ _ | with_reducible refine Below.drew ?_ | (with_reducible refine Below.alloc ?_ ?hle _; case hle => first | exact Nat.le_refl _ | omega | (simp; omega) | simp) | (with_reducible refine Ans.six ?_ ?hle _ _ _ _ _ _; case hle => first | exact Nat.le_refl _ | omega | (simp; omega)))) (bb.mono (by simp))); have sA := (unhide cA).size; (first | (have V0 := hide (Box.below (Box.made (w := w3.drew) (base := w.heap.size) (g := w3.heap.size) (.slice none 0 0) (.slice none 0 0) (.slice none 0 0) (.slice none 0 0) (.slice none 0 0) (.int .i64 0) (by first | omega | (simp; omega)) rfl) bb (by simp))) | skip); have A1 := hide ((unhide S3).step (unhide cA)); have X1 := hide ((unhide T3).below (unhide cA) t3.2); have HZ := hide hz; have OZ := hide (show Ow u1 w3.heap.size z from oz.rebase (by simp)); clear bb hz oz) | (go_at_call 49; refine (SLegs.sLegs _ p0 p1 p2 p3 p4 p5 p6 p7 q1 q2 q3 q4).mono ?_; rintro e u2 ⟨gL, cL, rfl, oL, bb2⟩; have BB2 := hide bb2; have cB := hide (show Below u1.heap.size u1 u2 from Below.trans (by repeat (first | with_reducible exact unhide cA | with_reducible exact unhide cB | with_reducible exact unhide cC | with_reducible exact unhide cD | with_reducible exact unhide cE | with_reducible exact unhide cF | with_reducible exact Below.refl _ _ | with_reducible refine Below.drew ?_ | (with_reducible refine Below.alloc ?_ ?hle _; case hle => first | exact Nat.le_refl _ | omega | (simp; omega) | simp) | (with_reducible refine Ans.six ?_ ?hle _ _ _ _ _ _; case hle => first | exact Nat.le_refl _ | omega | (simp; omega)))) (bb2.mono (by simp))); have cC := hide ((unhide cA).trans ((unhide cB).mono (unhide cA).size)); have sB := (unhide cB).size; (first | (have V0 := hide (Box.below (unhide V0) bb2 (by have := (unhide V0).lt.2; first | exact this | (simp; omega)))) | (have V0 := hide (Box.below (Box.made (w := u1) (base := w.heap.size) (g := u1.heap.size) (.slice none 0 0) (.slice none 0 0) (.slice none 0 0) (.slice none 0 0) (.slice none 0 0) (.int .i64 0) (by first | omega | (simp; omega)) rfl) bb2 (by simp))) | skip); have A2 := hide ((unhide A1).step (unhide cB)); have X2 := hide ((unhide X1).below (unhide cB) (unhide X1).lt.2); have OL := hide (oL.rebase (base' := w3.heap.size) (by have h1 := oL.lt.1; have h2 := (unhide cA).size; (try simp at h1); omega)); have OZ2 := hide ((unhide OZ).below (unhide cB) (Nat.le_refl _)); clear bb2 oL) | (go_at_call 48; refine (sPost4 _ w3.heap.size z gL cL (p0, p1, p2, p3, p4, p5, p6, p7) ((unhide OZ2).below (by repeat (first | with_reducible exact unhide cA | with_reducible exact unhide cB | with_reducible exact unhide cC | with_reducible exact unhide cD | with_reducible exact unhide cE | with_reducible exact unhide cF | with_reducible exact Below.refl _ _ | with_reducible refine Below.drew ?_ | (with_reducible refine Below.alloc ?_ ?hle _; case hle => first | exact Nat.le_refl _ | omega | (simp; omega) | simp) | (with_reducible refine Ans.six ?_ ?hle _ _ _ _ _ _; case hle => first | exact Nat.le_refl _ | omega | (simp; omega)))) (Nat.le_refl u2.heap.size)) (by rw [unhide HZ]; exact unhide LI) (by rw [unhide HZ]; exact unhide SM) ((unhide OL).below (B := u2.heap.size) (by repeat (first | with_reducible exact unhide cA | with_reducible exact unhide cB | with_reducible exact unhide cC | with_reducible exact unhide cD | with_reducible exact unhide cE | with_reducible exact unhide cF | with_reducible exact Below.refl _ _ | with_reducible refine Below.drew ?_ | (with_reducible refine Below.alloc ?_ ?hle _; case hle => first | exact Nat.le_refl _ | omega | (simp; omega) | simp) | (with_reducible refine Ans.six ?_ ?hle _ _ _ _ _ _; case hle => first | exact Nat.le_refl _ | omega | (simp; omega)))) (unhide OL).lt.2) (unhide TO)).mono ?_; rintro e u3 ⟨y1, e1, hpo, rfl, o1, bb3⟩; have BB3 := hide bb3; have cD := hide (show Below u2.heap.size u2 u3 from Below.trans (by repeat (first | with_reducible exact unhide cA | with_reducible exact unhide cB | with_reducible exact unhide cC | with_reducible exact unhide cD | with_reducible exact unhide cE | with_reducible exact unhide cF | with_reducible exact Below.refl _ _ | with_reducible refine Below.drew ?_ | (with_reducible refine Below.alloc ?_ ?hle _; case hle => first | exact Nat.le_refl _ | omega | (simp; omega) | simp) | (with_reducible refine Ans.six ?_ ?hle _ _ _ _ _ _; case hle => first | exact Nat.le_refl _ | omega | (simp; omega)))) (bb3.mono (by simp))); have cE := hide ((unhide cB).trans ((unhide cD).mono (unhide cB).size)); have cF := hide ((unhide cC).trans ((unhide cD).mono (unhide cC).size)); have sD := (unhide cD).size; (first | (have V0 := hide (Box.below (unhide V0) bb3 (by have := (unhide V0).lt.2; first | exact this | (simp; omega)))) | (have V0 := hide (Box.below (Box.made (w := u2) (base := w.heap.size) (g := u2.heap.size) (.slice none 0 0) (.slice none 0 0) (.slice none 0 0) (.slice none 0 0) (.slice none 0 0) (.int .i64 0) (by first | omega | (simp; omega)) rfl) bb3 (by simp))) | skip); (first | (have k0 := (unhide V0).c0; have k1 := (unhide V0).c1; have k2 := (unhide V0).c2; have k3 := (unhide V0).c3; have k4 := (unhide V0).c4; have k5 := (unhide V0).c5; have v0 := (unhide V0).free 0; have v1 := (unhide V0).free 1; have v2 := (unhide V0).free 2; have v3 := (unhide V0).free 3; have v4 := (unhide V0).free 4; have v5 := (unhide V0).free 5) | skip); have A3 := hide ((unhide A2).step (unhide cD)); have X3 := hide ((unhide X2).below (unhide cD) (unhide X2).lt.2); have HPO := hide hpo; have O1 := hide o1; clear bb3 hpo o1))
  · have HPX := hide (show IsPosted x.b (legsT (p0, p1, p2, p3, p4, p5, p6, p7) ) y1.b e1 from by have h := unhide HPO; rw [unhide HZ] at h; exact h)
    have sv := (unhide S3).v.lt
    have sv2 := (unhide S2).v.lt
    refine to_wc (fun W => SR w W x ∧ Box8 W w.heap.size w2.heap.size (p0, p1, p2, p3, p4, p5, p6, p7) ∧ Box W w.heap.size u3.heap.size (.slice (some ⟨y1.ga, 0, none⟩) y1.b.ac.length y1.ca) (.slice (some ⟨y1.gi, 0, none⟩) y1.b.ic.length y1.ci) (.slice (some ⟨y1.gb, 0, none⟩) y1.b.bs.length y1.cb) (.slice (some ⟨y1.gl, 0, none⟩) y1.b.ls.length y1.cl) (.slice (some ⟨y1.gt, 0, none⟩) y1.b.ts.length y1.ct) (.int .i64 y1.b.lot) ∧ Ow W w3.heap.size y1) ?_ ?_
    · exact ⟨(unhide A3).step (one_more u3 _), (unhide X3).alloc _, Box.made _ _ _ _ _ _ (unhide A3).b.size rfl, ow_alloc (unhide O1) _⟩
    rintro W ⟨AS', XS', VS', OS'⟩
    have AS := hide AS'
    have XS := hide XS'
    have VS := hide VS'
    have OS := hide OS'
    clear AS' XS' VS' OS'
    have l6 : w.heap.size + 1 ≠ u3.heap.size := by omega
    have l7 : w.heap.size ≠ u3.heap.size := by omega
    have l8 : w2.heap.size ≠ u3.heap.size := by omega
    clear c0 c1 c2 c3 c4 c5 r0 r1 r2 r3 r4 r5 f0 f1 f2 f3 f4 f5 d0 d1 d2 d3 d4 d5 d6 d7
    by_cases z1 : e1 = 0
    · subst z1
      have LOT := hide (show 0 ≤ y1.b.lot ∧ y1.b.lot ≤ 1000000000 from by rw [(posted_lot (unhide HPX)).1]; exact (unhide LI).2.2.2.2.2)
      have SMY := hide (posted_small (unhide HPX) (unhide SM))
      have a0 := (unhide VS).c0
      have a1 := (unhide VS).c1
      have a2 := (unhide VS).c2
      have a3 := (unhide VS).c3
      have a4 := (unhide VS).c4
      have a5 := (unhide VS).c5
      have af0 := (unhide VS).free 0
      have af1 := (unhide VS).free 1
      have af2 := (unhide VS).free 2
      have af3 := (unhide VS).free 3
      have af4 := (unhide VS).free 4
      have af5 := (unhide VS).free 5
      have h0 := (unhide XS).c0
      have h1 := (unhide XS).c1
      have h2 := (unhide XS).c2
      have h3 := (unhide XS).c3
      have h4 := (unhide XS).c4
      have h5 := (unhide XS).c5
      have h6 := (unhide XS).c6
      have h7 := (unhide XS).c7
      have hf0 := (unhide XS).free 0
      have hf1 := (unhide XS).free 1
      have hf2 := (unhide XS).free 2
      have hf3 := (unhide XS).free 3
      have hf4 := (unhide XS).free 4
      have hf5 := (unhide XS).free 5
      have hf6 := (unhide XS).free 6
      have hf7 := (unhide XS).free 7
      go_wp2_with fail
      refine (SCarryP.sCarryP W w3.heap.size y1 p2 p1 p3 p4 fk p6 q3 (unhide OS) (unhide LOT) (unhide SMY)).mono ?_
      rintro e w7 ⟨y2, t2, d2, ho, rfl, o2, bb⟩
      have S7 := hide ((unhide AS).step bb)
      have V7 := hide ((unhide VS).below bb (unhide VS).lt.2)
      have X7 := hide ((unhide XS).below bb (unhide XS).lt.2)
      have O2 := hide o2
      have HO := hide ho
      clear bb o2 ho
      clear a0 a1 a2 a3 a4 a5 af0 af1 af2 af3 af4 af5 h0 h1 h2 h3 h4 h5 h6 h7 hf0 hf1 hf2 hf3 hf4 hf5 hf6 hf7
      have a0 := (unhide V7).c0
      have a1 := (unhide V7).c1
      have a2 := (unhide V7).c2
      have a3 := (unhide V7).c3
      have a4 := (unhide V7).c4
      have a5 := (unhide V7).c5
      have af0 := (unhide V7).free 0
      have af1 := (unhide V7).free 1
      have af2 := (unhide V7).free 2
      have af3 := (unhide V7).free 3
      have af4 := (unhide V7).free 4
      have af5 := (unhide V7).free 5
      have h0 := (unhide X7).c0
      have h1 := (unhide X7).c1
      have h2 := (unhide X7).c2
      have h3 := (unhide X7).c3
      have h4 := (unhide X7).c4
      have h5 := (unhide X7).c5
      have h6 := (unhide X7).c6
      have h7 := (unhide X7).c7
      have hf0 := (unhide X7).free 0
      have hf1 := (unhide X7).free 1
      have hf2 := (unhide X7).free 2
      have hf3 := (unhide X7).free 3
      have hf4 := (unhide X7).free 4
      have hf5 := (unhide X7).free 5
      have hf6 := (unhide X7).free 6
      have hf7 := (unhide X7).free 7
      have F2 := hide (off_box (unhide O2) (unhide V7))
      by_cases z2 : d2 = 0
      · subst z2
        have TS := hide (show y2.b.ts = x.b.ts from (carried_ts (unhide HO)).trans (posted_ts (unhide HPX)))
        have tk : k < y2.b.ts.length := by rw [unhide TS]; exact t
        have ny : y2.b.ts.length ≤ 1048576 := by rw [unhide TS]; exact nt
        have IZ := hide (show IsSettle x.b no fk (withS y2 k 2).b (IntKind.i64.wrap (p6 - t2)) 0 from by
          refine .inr ⟨k, unhide KK, .inr ?_⟩
          rw [unhide HPP]
          obtain ⟨b2, k2, c2, ht, ⟨hne, _, hc⟩ | ⟨rfl, ho, rfl⟩⟩ := unhide HO
          · exact absurd hc.symm hne
          · exact ⟨unhide HST, y1.b, 0, unhide HPX, .inr ⟨rfl, b2, _, 0, ht, .inr ⟨rfl, y2.b, 0, ho, .inr ⟨rfl, rfl, rfl, rfl⟩⟩⟩⟩)
        have e7 := ((unhide O2).ot.at k tk).2.2.2.2.2.2.2
        have e8 := (unhide O2).ot.free (k * 8 + 7)
        have gy := (unhide O2).ot.lt
        have m1 := (unhide F2).2.2.2.2
        have m2 : y2.gt ≠ w.heap.size + 1 := by omega
        have m3 : y2.gt ≠ w2.heap.size := by have := (unhide T3).lt; omega
        go_wp2_with fail
        refine to_wc (fun W => SR w W x ∧ Box8 W w.heap.size w2.heap.size (p0, p1, p2, p3, p4, p5, p6, p7) ∧ Box W w.heap.size u3.heap.size (.slice (some ⟨y2.ga, 0, none⟩) y2.b.ac.length y2.ca) (.slice (some ⟨y2.gi, 0, none⟩) y2.b.ic.length y2.ci) (.slice (some ⟨y2.gb, 0, none⟩) y2.b.bs.length y2.cb) (.slice (some ⟨y2.gl, 0, none⟩) y2.b.ls.length y2.cl) (.slice (some ⟨y2.gt, 0, none⟩) y2.b.ts.length y2.ct) (.int .i64 y2.b.lot) ∧ Ow W w3.heap.size (withS y2 k 2)) ?_ ?_
        · have G1 := (box_six (unhide V7) (.slice (some ⟨y2.ga, 0, none⟩) y2.b.ac.length y2.ca) (.slice (some ⟨y2.gi, 0, none⟩) y2.b.ic.length y2.ci) (.slice (some ⟨y2.gb, 0, none⟩) y2.b.bs.length y2.cb) (.slice (some ⟨y2.gl, 0, none⟩) y2.b.ls.length y2.cl) (.slice (some ⟨y2.gt, 0, none⟩) y2.b.ts.length y2.ct) (.int .i64 y2.b.lot))
          have OO := ow_six (unhide O2) (unhide F2) (.slice (some ⟨y2.ga, 0, none⟩) y2.b.ac.length y2.ca) (.slice (some ⟨y2.gi, 0, none⟩) y2.b.ic.length y2.ci) (.slice (some ⟨y2.gb, 0, none⟩) y2.b.bs.length y2.cb) (.slice (some ⟨y2.gl, 0, none⟩) y2.b.ls.length y2.cl) (.slice (some ⟨y2.gt, 0, none⟩) y2.b.ts.length y2.ct) (.int .i64 y2.b.lot)
          have G2 := state_grown OO k 2
          exact ⟨SIssue.SR.grown (unhide HR) (SIssue.SR.grown (unhide HR) (unhide S7) G1.2 (by omega)) G2 (by omega), ((unhide X7).kept G1.2 (fun e => by injection e; omega)).kept G2 (fun e => by injection e; omega), G1.1.kept G2 (fun e => by injection e; omega), ow_state OO k 2⟩
        rintro W9 ⟨AS', XS', VS', OS'⟩
        have A9 := hide AS'
        have X9 := hide XS'
        have V9 := hide VS'
        have O9 := hide OS'
        clear AS' XS' VS' OS' e7 e8
        clear a0 a1 a2 a3 a4 a5 af0 af1 af2 af3 af4 af5 h0 h1 h2 h3 h4 h5 h6 h7 hf0 hf1 hf2 hf3 hf4 hf5 hf6 hf7
        have KW := And.intro (unhide V9).c0 (And.intro (unhide V9).c1 (And.intro (unhide V9).c2 (And.intro (unhide V9).c3 (And.intro (unhide V9).c4 (And.intro (unhide V9).c5 (unhide X9).c6)))))
        have s0 := (unhide A9).v.c0
        have s1 := (unhide A9).v.c1
        have s2 := (unhide A9).v.c2
        have s3 := (unhide A9).v.c3
        have s4 := (unhide A9).v.c4
        have s5 := (unhide A9).v.c5
        have sf0 := (unhide A9).v.free 0
        have sf1 := (unhide A9).v.free 1
        have sf2 := (unhide A9).v.free 2
        have sf3 := (unhide A9).v.free 3
        have sf4 := (unhide A9).v.free 4
        have sf5 := (unhide A9).v.free 5
        have U9 := hide (box_six (unhide A9).v (.slice (some ⟨y2.ga, 0, none⟩) y2.b.ac.length y2.ca) (.slice (some ⟨y2.gi, 0, none⟩) y2.b.ic.length y2.ci) (.slice (some ⟨y2.gb, 0, none⟩) y2.b.bs.length y2.cb) (.slice (some ⟨y2.gl, 0, none⟩) y2.b.ls.length y2.cl) (.slice (some ⟨y2.gt, 0, none⟩) y2.b.ts.length y2.ct) (.int .i64 y2.b.lot))
        have VU := hide (Box.below ((unhide V9).kept (unhide U9).2 (fun e => by injection e; omega)) (Below.refl _ _).drew (by simpa using (unhide V9).lt.2))
        have XU := hide (Box8.below ((unhide X9).kept (unhide U9).2 (fun e => by injection e; omega)) (Below.refl _ _).drew (by simpa using (unhide X9).lt.2))
        have VD := hide ((unhide V9).below (Below.refl _ _).drew (unhide V9).lt.2)
        have XD := hide ((unhide X9).below (Below.refl _ _).drew (unhide X9).lt.2)
        have K9 := And.intro (unhide VD).c0 (And.intro (unhide VD).c1 (And.intro (unhide VD).c2 (And.intro (unhide VD).c3 (And.intro (unhide VD).c4 (And.intro (unhide VD).c5 (unhide XD).c6)))))
        have K10 := And.intro (unhide VU).c0 (And.intro (unhide VU).c1 (And.intro (unhide VU).c2 (And.intro (unhide VU).c3 (And.intro (unhide VU).c4 (And.intro (unhide VU).c5 (unhide XU).c6)))))
        have r0 := (unhide A9).v.c0
        have r1 := (unhide A9).v.c1
        have r2 := (unhide A9).v.c2
        have r3 := (unhide A9).v.c3
        have r4 := (unhide A9).v.c4
        have r5 := (unhide A9).v.c5
        have f0 := (unhide A9).v.free 0
        have f1 := (unhide A9).v.free 1
        have f2 := (unhide A9).v.free 2
        have f3 := (unhide A9).v.free 3
        have f4 := (unhide A9).v.free 4
        have f5 := (unhide A9).v.free 5
        have F9 := hide (off_box (unhide O9) (unhide A9).v)
        go_region_held3 (fun w' => w'.cell? ⟨u3.heap.size, 0, none⟩ = some (.slice (some ⟨y2.ga, 0, none⟩) y2.b.ac.length y2.ca) ∧ w'.cell? ⟨u3.heap.size, 1, none⟩ = some (.slice (some ⟨y2.gi, 0, none⟩) y2.b.ic.length y2.ci) ∧ w'.cell? ⟨u3.heap.size, 2, none⟩ = some (.slice (some ⟨y2.gb, 0, none⟩) y2.b.bs.length y2.cb) ∧ w'.cell? ⟨u3.heap.size, 3, none⟩ = some (.slice (some ⟨y2.gl, 0, none⟩) y2.b.ls.length y2.cl) ∧ w'.cell? ⟨u3.heap.size, 4, none⟩ = some (.slice (some ⟨y2.gt, 0, none⟩) y2.b.ts.length y2.ct) ∧ w'.cell? ⟨u3.heap.size, 5, none⟩ = some (.int .i64 y2.b.lot) ∧ w'.cell? ⟨w2.heap.size, 6, none⟩ = some (.int .i64 p6)) (first | with_reducible exact KW | with_reducible exact K9 | with_reducible exact K10) (fail)
        go_wp2
        refine to_wb (fun W => Box W w.heap.size (w.heap.size + 1) (.slice (some ⟨y2.ga, 0, none⟩) y2.b.ac.length y2.ca) (.slice (some ⟨y2.gi, 0, none⟩) y2.b.ic.length y2.ci) (.slice (some ⟨y2.gb, 0, none⟩) y2.b.bs.length y2.cb) (.slice (some ⟨y2.gl, 0, none⟩) y2.b.ls.length y2.cl) (.slice (some ⟨y2.gt, 0, none⟩) y2.b.ts.length y2.ct) (.int .i64 y2.b.lot) ∧ Below w.heap.size w W ∧ Ow W w.heap.size (withS y2 k 2)) ?_ ?_
        · exact ⟨Box.below (unhide U9).1 (Below.refl _ _).drew (by have := (unhide A9).v.lt.2; simpa using this), (six (unhide A9).b (by omega) _ _ _ _ _ _).drew, (Ow.below (ow_six (unhide O9) (unhide F9) _ _ _ _ _ _) (Below.refl _ _).drew (Nat.le_refl _)).rebase (unhide S3).b.size⟩
        rintro W ⟨X, B, OW⟩
        have g0 := X.c0
        have g1 := X.c1
        have g2 := X.c2
        have g3 := X.c3
        have g4 := X.c4
        have g5 := X.c5
        exact bodyPost_ret (v := .tuple #[.agg #[.slice (some ⟨y2.ga, 0, none⟩) y2.b.ac.length y2.ca, .slice (some ⟨y2.gi, 0, none⟩) y2.b.ic.length y2.ci, .slice (some ⟨y2.gb, 0, none⟩) y2.b.bs.length y2.cb, .slice (some ⟨y2.gl, 0, none⟩) y2.b.ls.length y2.cl, .slice (some ⟨y2.gt, 0, none⟩) y2.b.ts.length y2.ct, .int .i64 y2.b.lot], .int .i64 (IntKind.i64.wrap (p6 - t2)), .int .i64 0]) (by simp [results, Tryz.results12, go_sem, g0, g1, g2, g3, g4, g5]) rfl (.inr ⟨unhide TT, withS y2 k 2, _, 0, unhide IZ, by simp [set_len], OW, B⟩)
      · have z2c : (d2 != 0) = true := ne_true z2
        have IZ2 := hide (show IsSettle x.b no fk x.b 0 d2 from by
          refine .inr ⟨k, unhide KK, .inr ?_⟩
          rw [unhide HPP]
          obtain ⟨b2, k2, c2, ht, ⟨hne, _, rfl⟩ | ⟨rfl, ho, rfl⟩⟩ := unhide HO
          · exact ⟨unhide HST, y1.b, 0, unhide HPX, .inr ⟨rfl, b2, k2, _, ht, .inl ⟨hne, rfl, rfl, rfl⟩⟩⟩
          · exact ⟨unhide HST, y1.b, 0, unhide HPX, .inr ⟨rfl, b2, _, 0, ht, .inr ⟨rfl, y2.b, d2, ho, .inl ⟨z2, rfl, rfl, rfl⟩⟩⟩⟩)
        clear z2
        have TG := hide (SIssue.SR.grown (unhide HR) (unhide S7) (box_six (unhide V7) (.slice (some ⟨y2.ga, 0, none⟩) y2.b.ac.length y2.ca) (.slice (some ⟨y2.gi, 0, none⟩) y2.b.ic.length y2.ci) (.slice (some ⟨y2.gb, 0, none⟩) y2.b.bs.length y2.cb) (.slice (some ⟨y2.gl, 0, none⟩) y2.b.ls.length y2.cl) (.slice (some ⟨y2.gt, 0, none⟩) y2.b.ts.length y2.ct) (.int .i64 y2.b.lot)).2 (by omega))
        obtain ⟨c0, c1, c2, c3, c4, c5⟩ := (unhide S7).c
        have r0 := (unhide S7).v.c0
        have r1 := (unhide S7).v.c1
        have r2 := (unhide S7).v.c2
        have r3 := (unhide S7).v.c3
        have r4 := (unhide S7).v.c4
        have r5 := (unhide S7).v.c5
        have f0 := (unhide S7).v.free 0
        have f1 := (unhide S7).v.free 1
        have f2 := (unhide S7).v.free 2
        have f3 := (unhide S7).v.free 3
        have f4 := (unhide S7).v.free 4
        have f5 := (unhide S7).v.free 5
        go_wp2_with fail
        refine (SCopy.sCopy _ x (unhide TG).r).mono ?_
        rintro e w8 ⟨z, hz, rfl, oz, bb⟩
        have S8 := hide ((unhide TG).step bb)
        have OZ := hide (oz.rebase (unhide TG).b.size)
        have LZ := hide (ow_lo oz)
        have zl := (unhide TG).v.lt.2
        have IZ := hide (show IsSettle x.b no fk z.b 0 d2 from by rw [hz]; exact (unhide IZ2))
        clear bb oz hz
        clear c0 c1 c2 c3 c4 c5 r0 r1 r2 r3 r4 r5 f0 f1 f2 f3 f4 f5
        obtain ⟨c0, c1, c2, c3, c4, c5⟩ := (unhide S8).c
        have r0 := (unhide S8).v.c0
        have r1 := (unhide S8).v.c1
        have r2 := (unhide S8).v.c2
        have r3 := (unhide S8).v.c3
        have r4 := (unhide S8).v.c4
        have r5 := (unhide S8).v.c5
        have f0 := (unhide S8).v.free 0
        have f1 := (unhide S8).v.free 1
        have f2 := (unhide S8).v.free 2
        have f3 := (unhide S8).v.free 3
        have f4 := (unhide S8).v.free 4
        have f5 := (unhide S8).v.free 5
        go_wp2
        refine bodyPost_ret (v := .tuple #[.agg #[.slice (some ⟨z.ga, 0, none⟩) z.b.ac.length z.ca, .slice (some ⟨z.gi, 0, none⟩) z.b.ic.length z.ci, .slice (some ⟨z.gb, 0, none⟩) z.b.bs.length z.cb, .slice (some ⟨z.gl, 0, none⟩) z.b.ls.length z.cl, .slice (some ⟨z.gt, 0, none⟩) z.b.ts.length z.ct, .int .i64 z.b.lot], .int .i64 0, .int .i64 d2]) (by simp [results, Tryz.results12, go_sem, r0, r1, r2, r3, r4, r5]) rfl (.inr ⟨unhide TT, z, 0, d2, unhide IZ, rfl, ?_, ?_⟩)
        · exact ow_six (unhide OZ) (off_lo (unhide LZ) zl) _ _ _ _ _ _
        · exact six (unhide S8).b (by omega) _ _ _ _ _ _
    · have z1b : (e1 == 0) = false := SIssue.eq_false z1
      have z1c : (e1 != 0) = true := ne_true z1
      have IZ1 := hide (show IsSettle x.b no fk x.b 0 e1 from by
        refine .inr ⟨k, unhide KK, .inr ?_⟩
        rw [unhide HPP]
        exact ⟨unhide HST, y1.b, e1, unhide HPX, .inl ⟨z1, rfl, rfl, rfl⟩⟩)
      clear z1
      obtain ⟨c0, c1, c2, c3, c4, c5⟩ := (unhide AS).c
      have r0 := (unhide AS).v.c0
      have r1 := (unhide AS).v.c1
      have r2 := (unhide AS).v.c2
      have r3 := (unhide AS).v.c3
      have r4 := (unhide AS).v.c4
      have r5 := (unhide AS).v.c5
      have f0 := (unhide AS).v.free 0
      have f1 := (unhide AS).v.free 1
      have f2 := (unhide AS).v.free 2
      have f3 := (unhide AS).v.free 3
      have f4 := (unhide AS).v.free 4
      have f5 := (unhide AS).v.free 5
      go_wp2_with fail
      refine (SCopy.sCopy _ x (unhide AS).r).mono ?_
      rintro e w8 ⟨z, hz, rfl, oz, bb⟩
      have S8 := hide ((unhide AS).step bb)
      have OZ := hide (oz.rebase (unhide AS).b.size)
      have LZ := hide (ow_lo oz)
      have zl := (unhide AS).v.lt.2
      have IZ := hide (show IsSettle x.b no fk z.b 0 e1 from by rw [hz]; exact (unhide IZ1))
      clear bb oz hz
      clear c0 c1 c2 c3 c4 c5 r0 r1 r2 r3 r4 r5 f0 f1 f2 f3 f4 f5
      obtain ⟨c0, c1, c2, c3, c4, c5⟩ := (unhide S8).c
      have r0 := (unhide S8).v.c0
      have r1 := (unhide S8).v.c1
      have r2 := (unhide S8).v.c2
      have r3 := (unhide S8).v.c3
      have r4 := (unhide S8).v.c4
      have r5 := (unhide S8).v.c5
      have f0 := (unhide S8).v.free 0
      have f1 := (unhide S8).v.free 1
      have f2 := (unhide S8).v.free 2
      have f3 := (unhide S8).v.free 3
      have f4 := (unhide S8).v.free 4
      have f5 := (unhide S8).v.free 5
      go_wp2
      refine bodyPost_ret (v := .tuple #[.agg #[.slice (some ⟨z.ga, 0, none⟩) z.b.ac.length z.ca, .slice (some ⟨z.gi, 0, none⟩) z.b.ic.length z.ci, .slice (some ⟨z.gb, 0, none⟩) z.b.bs.length z.cb, .slice (some ⟨z.gl, 0, none⟩) z.b.ls.length z.cl, .slice (some ⟨z.gt, 0, none⟩) z.b.ts.length z.ct, .int .i64 z.b.lot], .int .i64 0, .int .i64 e1]) (by simp [results, Tryz.results12, go_sem, r0, r1, r2, r3, r4, r5]) rfl (.inr ⟨unhide TT, z, 0, e1, unhide IZ, rfl, ?_, ?_⟩)
      · exact ow_six (unhide OZ) (off_lo (unhide LZ) zl) _ _ _ _ _ _
      · exact six (unhide S8).b (by omega) _ _ _ _ _ _
  · have HPX := hide (show IsPosted x.b (legsT (p0, p1, p2, p3, p4, p5, p6, p7) ) y1.b e1 from by have h := unhide HPO; rw [unhide HZ] at h; exact h)
    clear k0 k1 k2 k3 k4 k5 v0 v1 v2 v3 v4 v5
    have sv := (unhide S3).v.lt
    have sv2 := (unhide S2).v.lt
    refine to_wc (fun W => SR w W x ∧ Box8 W w.heap.size w2.heap.size (p0, p1, p2, p3, p4, p5, p6, p7) ∧ Box W w.heap.size u2.heap.size (.slice (some ⟨y1.ga, 0, none⟩) y1.b.ac.length y1.ca) (.slice (some ⟨y1.gi, 0, none⟩) y1.b.ic.length y1.ci) (.slice (some ⟨y1.gb, 0, none⟩) y1.b.bs.length y1.cb) (.slice (some ⟨y1.gl, 0, none⟩) y1.b.ls.length y1.cl) (.slice (some ⟨y1.gt, 0, none⟩) y1.b.ts.length y1.ct) (.int .i64 y1.b.lot) ∧ Ow W w3.heap.size y1) ?_ ?_
    · exact ⟨SIssue.SR.grown (unhide HR) (unhide A3) (box_six (unhide V0) _ _ _ _ _ _).2 (by omega), (unhide X3).kept (box_six (unhide V0) _ _ _ _ _ _).2 (fun e => by injection e; omega), (box_six (unhide V0) _ _ _ _ _ _).1, ow_six (unhide O1) (off_box (unhide O1) (unhide V0)) _ _ _ _ _ _⟩
    rintro W ⟨AS', XS', VS', OS'⟩
    have AS := hide AS'
    have XS := hide XS'
    have VS := hide VS'
    have OS := hide OS'
    clear AS' XS' VS' OS'
    have l6 : w.heap.size + 1 ≠ u2.heap.size := by omega
    have l7 : w.heap.size ≠ u2.heap.size := by omega
    have l8 : w2.heap.size ≠ u2.heap.size := by omega
    clear c0 c1 c2 c3 c4 c5 r0 r1 r2 r3 r4 r5 f0 f1 f2 f3 f4 f5 d0 d1 d2 d3 d4 d5 d6 d7
    by_cases z1 : e1 = 0
    · subst z1
      have LOT := hide (show 0 ≤ y1.b.lot ∧ y1.b.lot ≤ 1000000000 from by rw [(posted_lot (unhide HPX)).1]; exact (unhide LI).2.2.2.2.2)
      have SMY := hide (posted_small (unhide HPX) (unhide SM))
      have a0 := (unhide VS).c0
      have a1 := (unhide VS).c1
      have a2 := (unhide VS).c2
      have a3 := (unhide VS).c3
      have a4 := (unhide VS).c4
      have a5 := (unhide VS).c5
      have af0 := (unhide VS).free 0
      have af1 := (unhide VS).free 1
      have af2 := (unhide VS).free 2
      have af3 := (unhide VS).free 3
      have af4 := (unhide VS).free 4
      have af5 := (unhide VS).free 5
      have h0 := (unhide XS).c0
      have h1 := (unhide XS).c1
      have h2 := (unhide XS).c2
      have h3 := (unhide XS).c3
      have h4 := (unhide XS).c4
      have h5 := (unhide XS).c5
      have h6 := (unhide XS).c6
      have h7 := (unhide XS).c7
      have hf0 := (unhide XS).free 0
      have hf1 := (unhide XS).free 1
      have hf2 := (unhide XS).free 2
      have hf3 := (unhide XS).free 3
      have hf4 := (unhide XS).free 4
      have hf5 := (unhide XS).free 5
      have hf6 := (unhide XS).free 6
      have hf7 := (unhide XS).free 7
      go_wp2_with fail
      refine (SCarryP.sCarryP W w3.heap.size y1 p2 p1 p3 p4 fk p6 q3 (unhide OS) (unhide LOT) (unhide SMY)).mono ?_
      rintro e w7 ⟨y2, t2, d2, ho, rfl, o2, bb⟩
      have S7 := hide ((unhide AS).step bb)
      have V7 := hide ((unhide VS).below bb (unhide VS).lt.2)
      have X7 := hide ((unhide XS).below bb (unhide XS).lt.2)
      have O2 := hide o2
      have HO := hide ho
      clear bb o2 ho
      clear a0 a1 a2 a3 a4 a5 af0 af1 af2 af3 af4 af5 h0 h1 h2 h3 h4 h5 h6 h7 hf0 hf1 hf2 hf3 hf4 hf5 hf6 hf7
      have a0 := (unhide V7).c0
      have a1 := (unhide V7).c1
      have a2 := (unhide V7).c2
      have a3 := (unhide V7).c3
      have a4 := (unhide V7).c4
      have a5 := (unhide V7).c5
      have af0 := (unhide V7).free 0
      have af1 := (unhide V7).free 1
      have af2 := (unhide V7).free 2
      have af3 := (unhide V7).free 3
      have af4 := (unhide V7).free 4
      have af5 := (unhide V7).free 5
      have h0 := (unhide X7).c0
      have h1 := (unhide X7).c1
      have h2 := (unhide X7).c2
      have h3 := (unhide X7).c3
      have h4 := (unhide X7).c4
      have h5 := (unhide X7).c5
      have h6 := (unhide X7).c6
      have h7 := (unhide X7).c7
      have hf0 := (unhide X7).free 0
      have hf1 := (unhide X7).free 1
      have hf2 := (unhide X7).free 2
      have hf3 := (unhide X7).free 3
      have hf4 := (unhide X7).free 4
      have hf5 := (unhide X7).free 5
      have hf6 := (unhide X7).free 6
      have hf7 := (unhide X7).free 7
      have F2 := hide (off_box (unhide O2) (unhide V7))
      by_cases z2 : d2 = 0
      · subst z2
        have TS := hide (show y2.b.ts = x.b.ts from (carried_ts (unhide HO)).trans (posted_ts (unhide HPX)))
        have tk : k < y2.b.ts.length := by rw [unhide TS]; exact t
        have ny : y2.b.ts.length ≤ 1048576 := by rw [unhide TS]; exact nt
        have IZ := hide (show IsSettle x.b no fk (withS y2 k 2).b (IntKind.i64.wrap (p6 - t2)) 0 from by
          refine .inr ⟨k, unhide KK, .inr ?_⟩
          rw [unhide HPP]
          obtain ⟨b2, k2, c2, ht, ⟨hne, _, hc⟩ | ⟨rfl, ho, rfl⟩⟩ := unhide HO
          · exact absurd hc.symm hne
          · exact ⟨unhide HST, y1.b, 0, unhide HPX, .inr ⟨rfl, b2, _, 0, ht, .inr ⟨rfl, y2.b, 0, ho, .inr ⟨rfl, rfl, rfl, rfl⟩⟩⟩⟩)
        have e7 := ((unhide O2).ot.at k tk).2.2.2.2.2.2.2
        have e8 := (unhide O2).ot.free (k * 8 + 7)
        have gy := (unhide O2).ot.lt
        have m1 := (unhide F2).2.2.2.2
        have m2 : y2.gt ≠ w.heap.size + 1 := by omega
        have m3 : y2.gt ≠ w2.heap.size := by have := (unhide T3).lt; omega
        go_wp2_with fail
        refine to_wc (fun W => SR w W x ∧ Box8 W w.heap.size w2.heap.size (p0, p1, p2, p3, p4, p5, p6, p7) ∧ Box W w.heap.size u2.heap.size (.slice (some ⟨y2.ga, 0, none⟩) y2.b.ac.length y2.ca) (.slice (some ⟨y2.gi, 0, none⟩) y2.b.ic.length y2.ci) (.slice (some ⟨y2.gb, 0, none⟩) y2.b.bs.length y2.cb) (.slice (some ⟨y2.gl, 0, none⟩) y2.b.ls.length y2.cl) (.slice (some ⟨y2.gt, 0, none⟩) y2.b.ts.length y2.ct) (.int .i64 y2.b.lot) ∧ Ow W w3.heap.size (withS y2 k 2)) ?_ ?_
        · have G1 := (box_six (unhide V7) (.slice (some ⟨y2.ga, 0, none⟩) y2.b.ac.length y2.ca) (.slice (some ⟨y2.gi, 0, none⟩) y2.b.ic.length y2.ci) (.slice (some ⟨y2.gb, 0, none⟩) y2.b.bs.length y2.cb) (.slice (some ⟨y2.gl, 0, none⟩) y2.b.ls.length y2.cl) (.slice (some ⟨y2.gt, 0, none⟩) y2.b.ts.length y2.ct) (.int .i64 y2.b.lot))
          have OO := ow_six (unhide O2) (unhide F2) (.slice (some ⟨y2.ga, 0, none⟩) y2.b.ac.length y2.ca) (.slice (some ⟨y2.gi, 0, none⟩) y2.b.ic.length y2.ci) (.slice (some ⟨y2.gb, 0, none⟩) y2.b.bs.length y2.cb) (.slice (some ⟨y2.gl, 0, none⟩) y2.b.ls.length y2.cl) (.slice (some ⟨y2.gt, 0, none⟩) y2.b.ts.length y2.ct) (.int .i64 y2.b.lot)
          have G2 := state_grown OO k 2
          exact ⟨SIssue.SR.grown (unhide HR) (SIssue.SR.grown (unhide HR) (unhide S7) G1.2 (by omega)) G2 (by omega), ((unhide X7).kept G1.2 (fun e => by injection e; omega)).kept G2 (fun e => by injection e; omega), G1.1.kept G2 (fun e => by injection e; omega), ow_state OO k 2⟩
        rintro W9 ⟨AS', XS', VS', OS'⟩
        have A9 := hide AS'
        have X9 := hide XS'
        have V9 := hide VS'
        have O9 := hide OS'
        clear AS' XS' VS' OS' e7 e8
        clear a0 a1 a2 a3 a4 a5 af0 af1 af2 af3 af4 af5 h0 h1 h2 h3 h4 h5 h6 h7 hf0 hf1 hf2 hf3 hf4 hf5 hf6 hf7
        have KW := And.intro (unhide V9).c0 (And.intro (unhide V9).c1 (And.intro (unhide V9).c2 (And.intro (unhide V9).c3 (And.intro (unhide V9).c4 (And.intro (unhide V9).c5 (unhide X9).c6)))))
        have s0 := (unhide A9).v.c0
        have s1 := (unhide A9).v.c1
        have s2 := (unhide A9).v.c2
        have s3 := (unhide A9).v.c3
        have s4 := (unhide A9).v.c4
        have s5 := (unhide A9).v.c5
        have sf0 := (unhide A9).v.free 0
        have sf1 := (unhide A9).v.free 1
        have sf2 := (unhide A9).v.free 2
        have sf3 := (unhide A9).v.free 3
        have sf4 := (unhide A9).v.free 4
        have sf5 := (unhide A9).v.free 5
        have U9 := hide (box_six (unhide A9).v (.slice (some ⟨y2.ga, 0, none⟩) y2.b.ac.length y2.ca) (.slice (some ⟨y2.gi, 0, none⟩) y2.b.ic.length y2.ci) (.slice (some ⟨y2.gb, 0, none⟩) y2.b.bs.length y2.cb) (.slice (some ⟨y2.gl, 0, none⟩) y2.b.ls.length y2.cl) (.slice (some ⟨y2.gt, 0, none⟩) y2.b.ts.length y2.ct) (.int .i64 y2.b.lot))
        have VU := hide (Box.below ((unhide V9).kept (unhide U9).2 (fun e => by injection e; omega)) (Below.refl _ _).drew (by simpa using (unhide V9).lt.2))
        have XU := hide (Box8.below ((unhide X9).kept (unhide U9).2 (fun e => by injection e; omega)) (Below.refl _ _).drew (by simpa using (unhide X9).lt.2))
        have VD := hide ((unhide V9).below (Below.refl _ _).drew (unhide V9).lt.2)
        have XD := hide ((unhide X9).below (Below.refl _ _).drew (unhide X9).lt.2)
        have K9 := And.intro (unhide VD).c0 (And.intro (unhide VD).c1 (And.intro (unhide VD).c2 (And.intro (unhide VD).c3 (And.intro (unhide VD).c4 (And.intro (unhide VD).c5 (unhide XD).c6)))))
        have K10 := And.intro (unhide VU).c0 (And.intro (unhide VU).c1 (And.intro (unhide VU).c2 (And.intro (unhide VU).c3 (And.intro (unhide VU).c4 (And.intro (unhide VU).c5 (unhide XU).c6)))))
        have r0 := (unhide A9).v.c0
        have r1 := (unhide A9).v.c1
        have r2 := (unhide A9).v.c2
        have r3 := (unhide A9).v.c3
        have r4 := (unhide A9).v.c4
        have r5 := (unhide A9).v.c5
        have f0 := (unhide A9).v.free 0
        have f1 := (unhide A9).v.free 1
        have f2 := (unhide A9).v.free 2
        have f3 := (unhide A9).v.free 3
        have f4 := (unhide A9).v.free 4
        have f5 := (unhide A9).v.free 5
        have F9 := hide (off_box (unhide O9) (unhide A9).v)
        go_region_held3 (fun w' => w'.cell? ⟨u2.heap.size, 0, none⟩ = some (.slice (some ⟨y2.ga, 0, none⟩) y2.b.ac.length y2.ca) ∧ w'.cell? ⟨u2.heap.size, 1, none⟩ = some (.slice (some ⟨y2.gi, 0, none⟩) y2.b.ic.length y2.ci) ∧ w'.cell? ⟨u2.heap.size, 2, none⟩ = some (.slice (some ⟨y2.gb, 0, none⟩) y2.b.bs.length y2.cb) ∧ w'.cell? ⟨u2.heap.size, 3, none⟩ = some (.slice (some ⟨y2.gl, 0, none⟩) y2.b.ls.length y2.cl) ∧ w'.cell? ⟨u2.heap.size, 4, none⟩ = some (.slice (some ⟨y2.gt, 0, none⟩) y2.b.ts.length y2.ct) ∧ w'.cell? ⟨u2.heap.size, 5, none⟩ = some (.int .i64 y2.b.lot) ∧ w'.cell? ⟨w2.heap.size, 6, none⟩ = some (.int .i64 p6)) (first | with_reducible exact KW | with_reducible exact K9 | with_reducible exact K10) (fail)
        go_wp2
        refine to_wb (fun W => Box W w.heap.size (w.heap.size + 1) (.slice (some ⟨y2.ga, 0, none⟩) y2.b.ac.length y2.ca) (.slice (some ⟨y2.gi, 0, none⟩) y2.b.ic.length y2.ci) (.slice (some ⟨y2.gb, 0, none⟩) y2.b.bs.length y2.cb) (.slice (some ⟨y2.gl, 0, none⟩) y2.b.ls.length y2.cl) (.slice (some ⟨y2.gt, 0, none⟩) y2.b.ts.length y2.ct) (.int .i64 y2.b.lot) ∧ Below w.heap.size w W ∧ Ow W w.heap.size (withS y2 k 2)) ?_ ?_
        · exact ⟨Box.below (unhide U9).1 (Below.refl _ _).drew (by have := (unhide A9).v.lt.2; simpa using this), (six (unhide A9).b (by omega) _ _ _ _ _ _).drew, (Ow.below (ow_six (unhide O9) (unhide F9) _ _ _ _ _ _) (Below.refl _ _).drew (Nat.le_refl _)).rebase (unhide S3).b.size⟩
        rintro W ⟨X, B, OW⟩
        have g0 := X.c0
        have g1 := X.c1
        have g2 := X.c2
        have g3 := X.c3
        have g4 := X.c4
        have g5 := X.c5
        exact bodyPost_ret (v := .tuple #[.agg #[.slice (some ⟨y2.ga, 0, none⟩) y2.b.ac.length y2.ca, .slice (some ⟨y2.gi, 0, none⟩) y2.b.ic.length y2.ci, .slice (some ⟨y2.gb, 0, none⟩) y2.b.bs.length y2.cb, .slice (some ⟨y2.gl, 0, none⟩) y2.b.ls.length y2.cl, .slice (some ⟨y2.gt, 0, none⟩) y2.b.ts.length y2.ct, .int .i64 y2.b.lot], .int .i64 (IntKind.i64.wrap (p6 - t2)), .int .i64 0]) (by simp [results, Tryz.results12, go_sem, g0, g1, g2, g3, g4, g5]) rfl (.inr ⟨unhide TT, withS y2 k 2, _, 0, unhide IZ, by simp [set_len], OW, B⟩)
      · have z2c : (d2 != 0) = true := ne_true z2
        have IZ2 := hide (show IsSettle x.b no fk x.b 0 d2 from by
          refine .inr ⟨k, unhide KK, .inr ?_⟩
          rw [unhide HPP]
          obtain ⟨b2, k2, c2, ht, ⟨hne, _, rfl⟩ | ⟨rfl, ho, rfl⟩⟩ := unhide HO
          · exact ⟨unhide HST, y1.b, 0, unhide HPX, .inr ⟨rfl, b2, k2, _, ht, .inl ⟨hne, rfl, rfl, rfl⟩⟩⟩
          · exact ⟨unhide HST, y1.b, 0, unhide HPX, .inr ⟨rfl, b2, _, 0, ht, .inr ⟨rfl, y2.b, d2, ho, .inl ⟨z2, rfl, rfl, rfl⟩⟩⟩⟩)
        clear z2
        have TG := hide (SIssue.SR.grown (unhide HR) (unhide S7) (box_six (unhide V7) (.slice (some ⟨y2.ga, 0, none⟩) y2.b.ac.length y2.ca) (.slice (some ⟨y2.gi, 0, none⟩) y2.b.ic.length y2.ci) (.slice (some ⟨y2.gb, 0, none⟩) y2.b.bs.length y2.cb) (.slice (some ⟨y2.gl, 0, none⟩) y2.b.ls.length y2.cl) (.slice (some ⟨y2.gt, 0, none⟩) y2.b.ts.length y2.ct) (.int .i64 y2.b.lot)).2 (by omega))
        obtain ⟨c0, c1, c2, c3, c4, c5⟩ := (unhide S7).c
        have r0 := (unhide S7).v.c0
        have r1 := (unhide S7).v.c1
        have r2 := (unhide S7).v.c2
        have r3 := (unhide S7).v.c3
        have r4 := (unhide S7).v.c4
        have r5 := (unhide S7).v.c5
        have f0 := (unhide S7).v.free 0
        have f1 := (unhide S7).v.free 1
        have f2 := (unhide S7).v.free 2
        have f3 := (unhide S7).v.free 3
        have f4 := (unhide S7).v.free 4
        have f5 := (unhide S7).v.free 5
        go_wp2_with fail
        refine (SCopy.sCopy _ x (unhide TG).r).mono ?_
        rintro e w8 ⟨z, hz, rfl, oz, bb⟩
        have S8 := hide ((unhide TG).step bb)
        have OZ := hide (oz.rebase (unhide TG).b.size)
        have LZ := hide (ow_lo oz)
        have zl := (unhide TG).v.lt.2
        have IZ := hide (show IsSettle x.b no fk z.b 0 d2 from by rw [hz]; exact (unhide IZ2))
        clear bb oz hz
        clear c0 c1 c2 c3 c4 c5 r0 r1 r2 r3 r4 r5 f0 f1 f2 f3 f4 f5
        obtain ⟨c0, c1, c2, c3, c4, c5⟩ := (unhide S8).c
        have r0 := (unhide S8).v.c0
        have r1 := (unhide S8).v.c1
        have r2 := (unhide S8).v.c2
        have r3 := (unhide S8).v.c3
        have r4 := (unhide S8).v.c4
        have r5 := (unhide S8).v.c5
        have f0 := (unhide S8).v.free 0
        have f1 := (unhide S8).v.free 1
        have f2 := (unhide S8).v.free 2
        have f3 := (unhide S8).v.free 3
        have f4 := (unhide S8).v.free 4
        have f5 := (unhide S8).v.free 5
        go_wp2
        refine bodyPost_ret (v := .tuple #[.agg #[.slice (some ⟨z.ga, 0, none⟩) z.b.ac.length z.ca, .slice (some ⟨z.gi, 0, none⟩) z.b.ic.length z.ci, .slice (some ⟨z.gb, 0, none⟩) z.b.bs.length z.cb, .slice (some ⟨z.gl, 0, none⟩) z.b.ls.length z.cl, .slice (some ⟨z.gt, 0, none⟩) z.b.ts.length z.ct, .int .i64 z.b.lot], .int .i64 0, .int .i64 d2]) (by simp [results, Tryz.results12, go_sem, r0, r1, r2, r3, r4, r5]) rfl (.inr ⟨unhide TT, z, 0, d2, unhide IZ, rfl, ?_, ?_⟩)
        · exact ow_six (unhide OZ) (off_lo (unhide LZ) zl) _ _ _ _ _ _
        · exact six (unhide S8).b (by omega) _ _ _ _ _ _
    · have z1b : (e1 == 0) = false := SIssue.eq_false z1
      have z1c : (e1 != 0) = true := ne_true z1
      have IZ1 := hide (show IsSettle x.b no fk x.b 0 e1 from by
        refine .inr ⟨k, unhide KK, .inr ?_⟩
        rw [unhide HPP]
        exact ⟨unhide HST, y1.b, e1, unhide HPX, .inl ⟨z1, rfl, rfl, rfl⟩⟩)
      clear z1
      obtain ⟨c0, c1, c2, c3, c4, c5⟩ := (unhide AS).c
      have r0 := (unhide AS).v.c0
      have r1 := (unhide AS).v.c1
      have r2 := (unhide AS).v.c2
      have r3 := (unhide AS).v.c3
      have r4 := (unhide AS).v.c4
      have r5 := (unhide AS).v.c5
      have f0 := (unhide AS).v.free 0
      have f1 := (unhide AS).v.free 1
      have f2 := (unhide AS).v.free 2
      have f3 := (unhide AS).v.free 3
      have f4 := (unhide AS).v.free 4
      have f5 := (unhide AS).v.free 5
      go_wp2_with fail
      refine (SCopy.sCopy _ x (unhide AS).r).mono ?_
      rintro e w8 ⟨z, hz, rfl, oz, bb⟩
      have S8 := hide ((unhide AS).step bb)
      have OZ := hide (oz.rebase (unhide AS).b.size)
      have LZ := hide (ow_lo oz)
      have zl := (unhide AS).v.lt.2
      have IZ := hide (show IsSettle x.b no fk z.b 0 e1 from by rw [hz]; exact (unhide IZ1))
      clear bb oz hz
      clear c0 c1 c2 c3 c4 c5 r0 r1 r2 r3 r4 r5 f0 f1 f2 f3 f4 f5
      obtain ⟨c0, c1, c2, c3, c4, c5⟩ := (unhide S8).c
      have r0 := (unhide S8).v.c0
      have r1 := (unhide S8).v.c1
      have r2 := (unhide S8).v.c2
      have r3 := (unhide S8).v.c3
      have r4 := (unhide S8).v.c4
      have r5 := (unhide S8).v.c5
      have f0 := (unhide S8).v.free 0
      have f1 := (unhide S8).v.free 1
      have f2 := (unhide S8).v.free 2
      have f3 := (unhide S8).v.free 3
      have f4 := (unhide S8).v.free 4
      have f5 := (unhide S8).v.free 5
      go_wp2
      refine bodyPost_ret (v := .tuple #[.agg #[.slice (some ⟨z.ga, 0, none⟩) z.b.ac.length z.ca, .slice (some ⟨z.gi, 0, none⟩) z.b.ic.length z.ci, .slice (some ⟨z.gb, 0, none⟩) z.b.bs.length z.cb, .slice (some ⟨z.gl, 0, none⟩) z.b.ls.length z.cl, .slice (some ⟨z.gt, 0, none⟩) z.b.ts.length z.ct, .int .i64 z.b.lot], .int .i64 0, .int .i64 e1]) (by simp [results, Tryz.results12, go_sem, r0, r1, r2, r3, r4, r5]) rfl (.inr ⟨unhide TT, z, 0, e1, unhide IZ, rfl, ?_, ?_⟩)
      · exact ow_six (unhide OZ) (off_lo (unhide LZ) zl) _ _ _ _ _ _
      · exact six (unhide S8).b (by omega) _ _ _ _ _ _
  · have HPX := hide (show IsPosted x.b (legsT (p0, p1, p2, p3, p4, p5, p6, p7) ) y1.b e1 from by have h := unhide HPO; rw [unhide HZ] at h; exact h)
    clear k0 k1 k2 k3 k4 k5 v0 v1 v2 v3 v4 v5
    have sv := (unhide S3).v.lt
    have sv2 := (unhide S2).v.lt
    refine to_wc (fun W => SR w W x ∧ Box8 W w.heap.size w2.heap.size (p0, p1, p2, p3, p4, p5, p6, p7) ∧ Box W w.heap.size u1.heap.size (.slice (some ⟨y1.ga, 0, none⟩) y1.b.ac.length y1.ca) (.slice (some ⟨y1.gi, 0, none⟩) y1.b.ic.length y1.ci) (.slice (some ⟨y1.gb, 0, none⟩) y1.b.bs.length y1.cb) (.slice (some ⟨y1.gl, 0, none⟩) y1.b.ls.length y1.cl) (.slice (some ⟨y1.gt, 0, none⟩) y1.b.ts.length y1.ct) (.int .i64 y1.b.lot) ∧ Ow W w3.heap.size y1) ?_ ?_
    · exact ⟨SIssue.SR.grown (unhide HR) (unhide A3) (box_six (unhide V0) _ _ _ _ _ _).2 (by omega), (unhide X3).kept (box_six (unhide V0) _ _ _ _ _ _).2 (fun e => by injection e; omega), (box_six (unhide V0) _ _ _ _ _ _).1, ow_six (unhide O1) (off_box (unhide O1) (unhide V0)) _ _ _ _ _ _⟩
    rintro W ⟨AS', XS', VS', OS'⟩
    have AS := hide AS'
    have XS := hide XS'
    have VS := hide VS'
    have OS := hide OS'
    clear AS' XS' VS' OS'
    have l6 : w.heap.size + 1 ≠ u1.heap.size := by omega
    have l7 : w.heap.size ≠ u1.heap.size := by omega
    have l8 : w2.heap.size ≠ u1.heap.size := by omega
    clear c0 c1 c2 c3 c4 c5 r0 r1 r2 r3 r4 r5 f0 f1 f2 f3 f4 f5 d0 d1 d2 d3 d4 d5 d6 d7
    by_cases z1 : e1 = 0
    · subst z1
      have LOT := hide (show 0 ≤ y1.b.lot ∧ y1.b.lot ≤ 1000000000 from by rw [(posted_lot (unhide HPX)).1]; exact (unhide LI).2.2.2.2.2)
      have SMY := hide (posted_small (unhide HPX) (unhide SM))
      have a0 := (unhide VS).c0
      have a1 := (unhide VS).c1
      have a2 := (unhide VS).c2
      have a3 := (unhide VS).c3
      have a4 := (unhide VS).c4
      have a5 := (unhide VS).c5
      have af0 := (unhide VS).free 0
      have af1 := (unhide VS).free 1
      have af2 := (unhide VS).free 2
      have af3 := (unhide VS).free 3
      have af4 := (unhide VS).free 4
      have af5 := (unhide VS).free 5
      have h0 := (unhide XS).c0
      have h1 := (unhide XS).c1
      have h2 := (unhide XS).c2
      have h3 := (unhide XS).c3
      have h4 := (unhide XS).c4
      have h5 := (unhide XS).c5
      have h6 := (unhide XS).c6
      have h7 := (unhide XS).c7
      have hf0 := (unhide XS).free 0
      have hf1 := (unhide XS).free 1
      have hf2 := (unhide XS).free 2
      have hf3 := (unhide XS).free 3
      have hf4 := (unhide XS).free 4
      have hf5 := (unhide XS).free 5
      have hf6 := (unhide XS).free 6
      have hf7 := (unhide XS).free 7
      go_wp2_with fail
      refine (SCarryP.sCarryP W w3.heap.size y1 p2 p1 p3 p4 fk p6 q3 (unhide OS) (unhide LOT) (unhide SMY)).mono ?_
      rintro e w7 ⟨y2, t2, d2, ho, rfl, o2, bb⟩
      have S7 := hide ((unhide AS).step bb)
      have V7 := hide ((unhide VS).below bb (unhide VS).lt.2)
      have X7 := hide ((unhide XS).below bb (unhide XS).lt.2)
      have O2 := hide o2
      have HO := hide ho
      clear bb o2 ho
      clear a0 a1 a2 a3 a4 a5 af0 af1 af2 af3 af4 af5 h0 h1 h2 h3 h4 h5 h6 h7 hf0 hf1 hf2 hf3 hf4 hf5 hf6 hf7
      have a0 := (unhide V7).c0
      have a1 := (unhide V7).c1
      have a2 := (unhide V7).c2
      have a3 := (unhide V7).c3
      have a4 := (unhide V7).c4
      have a5 := (unhide V7).c5
      have af0 := (unhide V7).free 0
      have af1 := (unhide V7).free 1
      have af2 := (unhide V7).free 2
      have af3 := (unhide V7).free 3
      have af4 := (unhide V7).free 4
      have af5 := (unhide V7).free 5
      have h0 := (unhide X7).c0
      have h1 := (unhide X7).c1
      have h2 := (unhide X7).c2
      have h3 := (unhide X7).c3
      have h4 := (unhide X7).c4
      have h5 := (unhide X7).c5
      have h6 := (unhide X7).c6
      have h7 := (unhide X7).c7
      have hf0 := (unhide X7).free 0
      have hf1 := (unhide X7).free 1
      have hf2 := (unhide X7).free 2
      have hf3 := (unhide X7).free 3
      have hf4 := (unhide X7).free 4
      have hf5 := (unhide X7).free 5
      have hf6 := (unhide X7).free 6
      have hf7 := (unhide X7).free 7
      have F2 := hide (off_box (unhide O2) (unhide V7))
      by_cases z2 : d2 = 0
      · subst z2
        have TS := hide (show y2.b.ts = x.b.ts from (carried_ts (unhide HO)).trans (posted_ts (unhide HPX)))
        have tk : k < y2.b.ts.length := by rw [unhide TS]; exact t
        have ny : y2.b.ts.length ≤ 1048576 := by rw [unhide TS]; exact nt
        have IZ := hide (show IsSettle x.b no fk (withS y2 k 2).b (IntKind.i64.wrap (p6 - t2)) 0 from by
          refine .inr ⟨k, unhide KK, .inr ?_⟩
          rw [unhide HPP]
          obtain ⟨b2, k2, c2, ht, ⟨hne, _, hc⟩ | ⟨rfl, ho, rfl⟩⟩ := unhide HO
          · exact absurd hc.symm hne
          · exact ⟨unhide HST, y1.b, 0, unhide HPX, .inr ⟨rfl, b2, _, 0, ht, .inr ⟨rfl, y2.b, 0, ho, .inr ⟨rfl, rfl, rfl, rfl⟩⟩⟩⟩)
        have e7 := ((unhide O2).ot.at k tk).2.2.2.2.2.2.2
        have e8 := (unhide O2).ot.free (k * 8 + 7)
        have gy := (unhide O2).ot.lt
        have m1 := (unhide F2).2.2.2.2
        have m2 : y2.gt ≠ w.heap.size + 1 := by omega
        have m3 : y2.gt ≠ w2.heap.size := by have := (unhide T3).lt; omega
        go_wp2_with fail
        refine to_wc (fun W => SR w W x ∧ Box8 W w.heap.size w2.heap.size (p0, p1, p2, p3, p4, p5, p6, p7) ∧ Box W w.heap.size u1.heap.size (.slice (some ⟨y2.ga, 0, none⟩) y2.b.ac.length y2.ca) (.slice (some ⟨y2.gi, 0, none⟩) y2.b.ic.length y2.ci) (.slice (some ⟨y2.gb, 0, none⟩) y2.b.bs.length y2.cb) (.slice (some ⟨y2.gl, 0, none⟩) y2.b.ls.length y2.cl) (.slice (some ⟨y2.gt, 0, none⟩) y2.b.ts.length y2.ct) (.int .i64 y2.b.lot) ∧ Ow W w3.heap.size (withS y2 k 2)) ?_ ?_
        · have G1 := (box_six (unhide V7) (.slice (some ⟨y2.ga, 0, none⟩) y2.b.ac.length y2.ca) (.slice (some ⟨y2.gi, 0, none⟩) y2.b.ic.length y2.ci) (.slice (some ⟨y2.gb, 0, none⟩) y2.b.bs.length y2.cb) (.slice (some ⟨y2.gl, 0, none⟩) y2.b.ls.length y2.cl) (.slice (some ⟨y2.gt, 0, none⟩) y2.b.ts.length y2.ct) (.int .i64 y2.b.lot))
          have OO := ow_six (unhide O2) (unhide F2) (.slice (some ⟨y2.ga, 0, none⟩) y2.b.ac.length y2.ca) (.slice (some ⟨y2.gi, 0, none⟩) y2.b.ic.length y2.ci) (.slice (some ⟨y2.gb, 0, none⟩) y2.b.bs.length y2.cb) (.slice (some ⟨y2.gl, 0, none⟩) y2.b.ls.length y2.cl) (.slice (some ⟨y2.gt, 0, none⟩) y2.b.ts.length y2.ct) (.int .i64 y2.b.lot)
          have G2 := state_grown OO k 2
          exact ⟨SIssue.SR.grown (unhide HR) (SIssue.SR.grown (unhide HR) (unhide S7) G1.2 (by omega)) G2 (by omega), ((unhide X7).kept G1.2 (fun e => by injection e; omega)).kept G2 (fun e => by injection e; omega), G1.1.kept G2 (fun e => by injection e; omega), ow_state OO k 2⟩
        rintro W9 ⟨AS', XS', VS', OS'⟩
        have A9 := hide AS'
        have X9 := hide XS'
        have V9 := hide VS'
        have O9 := hide OS'
        clear AS' XS' VS' OS' e7 e8
        clear a0 a1 a2 a3 a4 a5 af0 af1 af2 af3 af4 af5 h0 h1 h2 h3 h4 h5 h6 h7 hf0 hf1 hf2 hf3 hf4 hf5 hf6 hf7
        have KW := And.intro (unhide V9).c0 (And.intro (unhide V9).c1 (And.intro (unhide V9).c2 (And.intro (unhide V9).c3 (And.intro (unhide V9).c4 (And.intro (unhide V9).c5 (unhide X9).c6)))))
        have s0 := (unhide A9).v.c0
        have s1 := (unhide A9).v.c1
        have s2 := (unhide A9).v.c2
        have s3 := (unhide A9).v.c3
        have s4 := (unhide A9).v.c4
        have s5 := (unhide A9).v.c5
        have sf0 := (unhide A9).v.free 0
        have sf1 := (unhide A9).v.free 1
        have sf2 := (unhide A9).v.free 2
        have sf3 := (unhide A9).v.free 3
        have sf4 := (unhide A9).v.free 4
        have sf5 := (unhide A9).v.free 5
        have U9 := hide (box_six (unhide A9).v (.slice (some ⟨y2.ga, 0, none⟩) y2.b.ac.length y2.ca) (.slice (some ⟨y2.gi, 0, none⟩) y2.b.ic.length y2.ci) (.slice (some ⟨y2.gb, 0, none⟩) y2.b.bs.length y2.cb) (.slice (some ⟨y2.gl, 0, none⟩) y2.b.ls.length y2.cl) (.slice (some ⟨y2.gt, 0, none⟩) y2.b.ts.length y2.ct) (.int .i64 y2.b.lot))
        have VU := hide (Box.below ((unhide V9).kept (unhide U9).2 (fun e => by injection e; omega)) (Below.refl _ _).drew (by simpa using (unhide V9).lt.2))
        have XU := hide (Box8.below ((unhide X9).kept (unhide U9).2 (fun e => by injection e; omega)) (Below.refl _ _).drew (by simpa using (unhide X9).lt.2))
        have VD := hide ((unhide V9).below (Below.refl _ _).drew (unhide V9).lt.2)
        have XD := hide ((unhide X9).below (Below.refl _ _).drew (unhide X9).lt.2)
        have K9 := And.intro (unhide VD).c0 (And.intro (unhide VD).c1 (And.intro (unhide VD).c2 (And.intro (unhide VD).c3 (And.intro (unhide VD).c4 (And.intro (unhide VD).c5 (unhide XD).c6)))))
        have K10 := And.intro (unhide VU).c0 (And.intro (unhide VU).c1 (And.intro (unhide VU).c2 (And.intro (unhide VU).c3 (And.intro (unhide VU).c4 (And.intro (unhide VU).c5 (unhide XU).c6)))))
        have r0 := (unhide A9).v.c0
        have r1 := (unhide A9).v.c1
        have r2 := (unhide A9).v.c2
        have r3 := (unhide A9).v.c3
        have r4 := (unhide A9).v.c4
        have r5 := (unhide A9).v.c5
        have f0 := (unhide A9).v.free 0
        have f1 := (unhide A9).v.free 1
        have f2 := (unhide A9).v.free 2
        have f3 := (unhide A9).v.free 3
        have f4 := (unhide A9).v.free 4
        have f5 := (unhide A9).v.free 5
        have F9 := hide (off_box (unhide O9) (unhide A9).v)
        go_region_held3 (fun w' => w'.cell? ⟨u1.heap.size, 0, none⟩ = some (.slice (some ⟨y2.ga, 0, none⟩) y2.b.ac.length y2.ca) ∧ w'.cell? ⟨u1.heap.size, 1, none⟩ = some (.slice (some ⟨y2.gi, 0, none⟩) y2.b.ic.length y2.ci) ∧ w'.cell? ⟨u1.heap.size, 2, none⟩ = some (.slice (some ⟨y2.gb, 0, none⟩) y2.b.bs.length y2.cb) ∧ w'.cell? ⟨u1.heap.size, 3, none⟩ = some (.slice (some ⟨y2.gl, 0, none⟩) y2.b.ls.length y2.cl) ∧ w'.cell? ⟨u1.heap.size, 4, none⟩ = some (.slice (some ⟨y2.gt, 0, none⟩) y2.b.ts.length y2.ct) ∧ w'.cell? ⟨u1.heap.size, 5, none⟩ = some (.int .i64 y2.b.lot) ∧ w'.cell? ⟨w2.heap.size, 6, none⟩ = some (.int .i64 p6)) (first | with_reducible exact KW | with_reducible exact K9 | with_reducible exact K10) (fail)
        go_wp2
        refine to_wb (fun W => Box W w.heap.size (w.heap.size + 1) (.slice (some ⟨y2.ga, 0, none⟩) y2.b.ac.length y2.ca) (.slice (some ⟨y2.gi, 0, none⟩) y2.b.ic.length y2.ci) (.slice (some ⟨y2.gb, 0, none⟩) y2.b.bs.length y2.cb) (.slice (some ⟨y2.gl, 0, none⟩) y2.b.ls.length y2.cl) (.slice (some ⟨y2.gt, 0, none⟩) y2.b.ts.length y2.ct) (.int .i64 y2.b.lot) ∧ Below w.heap.size w W ∧ Ow W w.heap.size (withS y2 k 2)) ?_ ?_
        · exact ⟨Box.below (unhide U9).1 (Below.refl _ _).drew (by have := (unhide A9).v.lt.2; simpa using this), (six (unhide A9).b (by omega) _ _ _ _ _ _).drew, (Ow.below (ow_six (unhide O9) (unhide F9) _ _ _ _ _ _) (Below.refl _ _).drew (Nat.le_refl _)).rebase (unhide S3).b.size⟩
        rintro W ⟨X, B, OW⟩
        have g0 := X.c0
        have g1 := X.c1
        have g2 := X.c2
        have g3 := X.c3
        have g4 := X.c4
        have g5 := X.c5
        exact bodyPost_ret (v := .tuple #[.agg #[.slice (some ⟨y2.ga, 0, none⟩) y2.b.ac.length y2.ca, .slice (some ⟨y2.gi, 0, none⟩) y2.b.ic.length y2.ci, .slice (some ⟨y2.gb, 0, none⟩) y2.b.bs.length y2.cb, .slice (some ⟨y2.gl, 0, none⟩) y2.b.ls.length y2.cl, .slice (some ⟨y2.gt, 0, none⟩) y2.b.ts.length y2.ct, .int .i64 y2.b.lot], .int .i64 (IntKind.i64.wrap (p6 - t2)), .int .i64 0]) (by simp [results, Tryz.results12, go_sem, g0, g1, g2, g3, g4, g5]) rfl (.inr ⟨unhide TT, withS y2 k 2, _, 0, unhide IZ, by simp [set_len], OW, B⟩)
      · have z2c : (d2 != 0) = true := ne_true z2
        have IZ2 := hide (show IsSettle x.b no fk x.b 0 d2 from by
          refine .inr ⟨k, unhide KK, .inr ?_⟩
          rw [unhide HPP]
          obtain ⟨b2, k2, c2, ht, ⟨hne, _, rfl⟩ | ⟨rfl, ho, rfl⟩⟩ := unhide HO
          · exact ⟨unhide HST, y1.b, 0, unhide HPX, .inr ⟨rfl, b2, k2, _, ht, .inl ⟨hne, rfl, rfl, rfl⟩⟩⟩
          · exact ⟨unhide HST, y1.b, 0, unhide HPX, .inr ⟨rfl, b2, _, 0, ht, .inr ⟨rfl, y2.b, d2, ho, .inl ⟨z2, rfl, rfl, rfl⟩⟩⟩⟩)
        clear z2
        have TG := hide (SIssue.SR.grown (unhide HR) (unhide S7) (box_six (unhide V7) (.slice (some ⟨y2.ga, 0, none⟩) y2.b.ac.length y2.ca) (.slice (some ⟨y2.gi, 0, none⟩) y2.b.ic.length y2.ci) (.slice (some ⟨y2.gb, 0, none⟩) y2.b.bs.length y2.cb) (.slice (some ⟨y2.gl, 0, none⟩) y2.b.ls.length y2.cl) (.slice (some ⟨y2.gt, 0, none⟩) y2.b.ts.length y2.ct) (.int .i64 y2.b.lot)).2 (by omega))
        obtain ⟨c0, c1, c2, c3, c4, c5⟩ := (unhide S7).c
        have r0 := (unhide S7).v.c0
        have r1 := (unhide S7).v.c1
        have r2 := (unhide S7).v.c2
        have r3 := (unhide S7).v.c3
        have r4 := (unhide S7).v.c4
        have r5 := (unhide S7).v.c5
        have f0 := (unhide S7).v.free 0
        have f1 := (unhide S7).v.free 1
        have f2 := (unhide S7).v.free 2
        have f3 := (unhide S7).v.free 3
        have f4 := (unhide S7).v.free 4
        have f5 := (unhide S7).v.free 5
        go_wp2_with fail
        refine (SCopy.sCopy _ x (unhide TG).r).mono ?_
        rintro e w8 ⟨z, hz, rfl, oz, bb⟩
        have S8 := hide ((unhide TG).step bb)
        have OZ := hide (oz.rebase (unhide TG).b.size)
        have LZ := hide (ow_lo oz)
        have zl := (unhide TG).v.lt.2
        have IZ := hide (show IsSettle x.b no fk z.b 0 d2 from by rw [hz]; exact (unhide IZ2))
        clear bb oz hz
        clear c0 c1 c2 c3 c4 c5 r0 r1 r2 r3 r4 r5 f0 f1 f2 f3 f4 f5
        obtain ⟨c0, c1, c2, c3, c4, c5⟩ := (unhide S8).c
        have r0 := (unhide S8).v.c0
        have r1 := (unhide S8).v.c1
        have r2 := (unhide S8).v.c2
        have r3 := (unhide S8).v.c3
        have r4 := (unhide S8).v.c4
        have r5 := (unhide S8).v.c5
        have f0 := (unhide S8).v.free 0
        have f1 := (unhide S8).v.free 1
        have f2 := (unhide S8).v.free 2
        have f3 := (unhide S8).v.free 3
        have f4 := (unhide S8).v.free 4
        have f5 := (unhide S8).v.free 5
        go_wp2
        refine bodyPost_ret (v := .tuple #[.agg #[.slice (some ⟨z.ga, 0, none⟩) z.b.ac.length z.ca, .slice (some ⟨z.gi, 0, none⟩) z.b.ic.length z.ci, .slice (some ⟨z.gb, 0, none⟩) z.b.bs.length z.cb, .slice (some ⟨z.gl, 0, none⟩) z.b.ls.length z.cl, .slice (some ⟨z.gt, 0, none⟩) z.b.ts.length z.ct, .int .i64 z.b.lot], .int .i64 0, .int .i64 d2]) (by simp [results, Tryz.results12, go_sem, r0, r1, r2, r3, r4, r5]) rfl (.inr ⟨unhide TT, z, 0, d2, unhide IZ, rfl, ?_, ?_⟩)
        · exact ow_six (unhide OZ) (off_lo (unhide LZ) zl) _ _ _ _ _ _
        · exact six (unhide S8).b (by omega) _ _ _ _ _ _
    · have z1b : (e1 == 0) = false := SIssue.eq_false z1
      have z1c : (e1 != 0) = true := ne_true z1
      have IZ1 := hide (show IsSettle x.b no fk x.b 0 e1 from by
        refine .inr ⟨k, unhide KK, .inr ?_⟩
        rw [unhide HPP]
        exact ⟨unhide HST, y1.b, e1, unhide HPX, .inl ⟨z1, rfl, rfl, rfl⟩⟩)
      clear z1
      obtain ⟨c0, c1, c2, c3, c4, c5⟩ := (unhide AS).c
      have r0 := (unhide AS).v.c0
      have r1 := (unhide AS).v.c1
      have r2 := (unhide AS).v.c2
      have r3 := (unhide AS).v.c3
      have r4 := (unhide AS).v.c4
      have r5 := (unhide AS).v.c5
      have f0 := (unhide AS).v.free 0
      have f1 := (unhide AS).v.free 1
      have f2 := (unhide AS).v.free 2
      have f3 := (unhide AS).v.free 3
      have f4 := (unhide AS).v.free 4
      have f5 := (unhide AS).v.free 5
      go_wp2_with fail
      refine (SCopy.sCopy _ x (unhide AS).r).mono ?_
      rintro e w8 ⟨z, hz, rfl, oz, bb⟩
      have S8 := hide ((unhide AS).step bb)
      have OZ := hide (oz.rebase (unhide AS).b.size)
      have LZ := hide (ow_lo oz)
      have zl := (unhide AS).v.lt.2
      have IZ := hide (show IsSettle x.b no fk z.b 0 e1 from by rw [hz]; exact (unhide IZ1))
      clear bb oz hz
      clear c0 c1 c2 c3 c4 c5 r0 r1 r2 r3 r4 r5 f0 f1 f2 f3 f4 f5
      obtain ⟨c0, c1, c2, c3, c4, c5⟩ := (unhide S8).c
      have r0 := (unhide S8).v.c0
      have r1 := (unhide S8).v.c1
      have r2 := (unhide S8).v.c2
      have r3 := (unhide S8).v.c3
      have r4 := (unhide S8).v.c4
      have r5 := (unhide S8).v.c5
      have f0 := (unhide S8).v.free 0
      have f1 := (unhide S8).v.free 1
      have f2 := (unhide S8).v.free 2
      have f3 := (unhide S8).v.free 3
      have f4 := (unhide S8).v.free 4
      have f5 := (unhide S8).v.free 5
      go_wp2
      refine bodyPost_ret (v := .tuple #[.agg #[.slice (some ⟨z.ga, 0, none⟩) z.b.ac.length z.ca, .slice (some ⟨z.gi, 0, none⟩) z.b.ic.length z.ci, .slice (some ⟨z.gb, 0, none⟩) z.b.bs.length z.cb, .slice (some ⟨z.gl, 0, none⟩) z.b.ls.length z.cl, .slice (some ⟨z.gt, 0, none⟩) z.b.ts.length z.ct, .int .i64 z.b.lot], .int .i64 0, .int .i64 e1]) (by simp [results, Tryz.results12, go_sem, r0, r1, r2, r3, r4, r5]) rfl (.inr ⟨unhide TT, z, 0, e1, unhide IZ, rfl, ?_, ?_⟩)
      · exact ow_six (unhide OZ) (off_lo (unhide LZ) zl) _ _ _ _ _ _
      · exact six (unhide S8).b (by omega) _ _ _ _ _ _
  · have HPX := hide (show IsPosted x.b (legsT (p0, p1, p2, p3, p4, p5, p6, p7) ) y1.b e1 from by have h := unhide HPO; rw [unhide HZ] at h; exact h)
    clear k0 k1 k2 k3 k4 k5 v0 v1 v2 v3 v4 v5
    have sv := (unhide S3).v.lt
    have sv2 := (unhide S2).v.lt
    refine to_wc (fun W => SR w W x ∧ Box8 W w.heap.size w2.heap.size (p0, p1, p2, p3, p4, p5, p6, p7) ∧ Box W w.heap.size w3.heap.size (.slice (some ⟨y1.ga, 0, none⟩) y1.b.ac.length y1.ca) (.slice (some ⟨y1.gi, 0, none⟩) y1.b.ic.length y1.ci) (.slice (some ⟨y1.gb, 0, none⟩) y1.b.bs.length y1.cb) (.slice (some ⟨y1.gl, 0, none⟩) y1.b.ls.length y1.cl) (.slice (some ⟨y1.gt, 0, none⟩) y1.b.ts.length y1.ct) (.int .i64 y1.b.lot) ∧ Ow W w3.heap.size y1) ?_ ?_
    · exact ⟨SIssue.SR.grown (unhide HR) (unhide A3) (box_six (unhide V0) _ _ _ _ _ _).2 (by omega), (unhide X3).kept (box_six (unhide V0) _ _ _ _ _ _).2 (fun e => by injection e; omega), (box_six (unhide V0) _ _ _ _ _ _).1, ow_six (unhide O1) (off_box (unhide O1) (unhide V0)) _ _ _ _ _ _⟩
    rintro W ⟨AS', XS', VS', OS'⟩
    have AS := hide AS'
    have XS := hide XS'
    have VS := hide VS'
    have OS := hide OS'
    clear AS' XS' VS' OS'
    have l6 : w.heap.size + 1 ≠ w3.heap.size := by omega
    have l7 : w.heap.size ≠ w3.heap.size := by omega
    have l8 : w2.heap.size ≠ w3.heap.size := by omega
    clear c0 c1 c2 c3 c4 c5 r0 r1 r2 r3 r4 r5 f0 f1 f2 f3 f4 f5 d0 d1 d2 d3 d4 d5 d6 d7
    by_cases z1 : e1 = 0
    · subst z1
      have LOT := hide (show 0 ≤ y1.b.lot ∧ y1.b.lot ≤ 1000000000 from by rw [(posted_lot (unhide HPX)).1]; exact (unhide LI).2.2.2.2.2)
      have SMY := hide (posted_small (unhide HPX) (unhide SM))
      have a0 := (unhide VS).c0
      have a1 := (unhide VS).c1
      have a2 := (unhide VS).c2
      have a3 := (unhide VS).c3
      have a4 := (unhide VS).c4
      have a5 := (unhide VS).c5
      have af0 := (unhide VS).free 0
      have af1 := (unhide VS).free 1
      have af2 := (unhide VS).free 2
      have af3 := (unhide VS).free 3
      have af4 := (unhide VS).free 4
      have af5 := (unhide VS).free 5
      have h0 := (unhide XS).c0
      have h1 := (unhide XS).c1
      have h2 := (unhide XS).c2
      have h3 := (unhide XS).c3
      have h4 := (unhide XS).c4
      have h5 := (unhide XS).c5
      have h6 := (unhide XS).c6
      have h7 := (unhide XS).c7
      have hf0 := (unhide XS).free 0
      have hf1 := (unhide XS).free 1
      have hf2 := (unhide XS).free 2
      have hf3 := (unhide XS).free 3
      have hf4 := (unhide XS).free 4
      have hf5 := (unhide XS).free 5
      have hf6 := (unhide XS).free 6
      have hf7 := (unhide XS).free 7
      go_wp2_with fail
      refine (SCarryP.sCarryP W w3.heap.size y1 p2 p1 p3 p4 fk p6 q3 (unhide OS) (unhide LOT) (unhide SMY)).mono ?_
      rintro e w7 ⟨y2, t2, d2, ho, rfl, o2, bb⟩
      have S7 := hide ((unhide AS).step bb)
      have V7 := hide ((unhide VS).below bb (unhide VS).lt.2)
      have X7 := hide ((unhide XS).below bb (unhide XS).lt.2)
      have O2 := hide o2
      have HO := hide ho
      clear bb o2 ho
      clear a0 a1 a2 a3 a4 a5 af0 af1 af2 af3 af4 af5 h0 h1 h2 h3 h4 h5 h6 h7 hf0 hf1 hf2 hf3 hf4 hf5 hf6 hf7
      have a0 := (unhide V7).c0
      have a1 := (unhide V7).c1
      have a2 := (unhide V7).c2
      have a3 := (unhide V7).c3
      have a4 := (unhide V7).c4
      have a5 := (unhide V7).c5
      have af0 := (unhide V7).free 0
      have af1 := (unhide V7).free 1
      have af2 := (unhide V7).free 2
      have af3 := (unhide V7).free 3
      have af4 := (unhide V7).free 4
      have af5 := (unhide V7).free 5
      have h0 := (unhide X7).c0
      have h1 := (unhide X7).c1
      have h2 := (unhide X7).c2
      have h3 := (unhide X7).c3
      have h4 := (unhide X7).c4
      have h5 := (unhide X7).c5
      have h6 := (unhide X7).c6
      have h7 := (unhide X7).c7
      have hf0 := (unhide X7).free 0
      have hf1 := (unhide X7).free 1
      have hf2 := (unhide X7).free 2
      have hf3 := (unhide X7).free 3
      have hf4 := (unhide X7).free 4
      have hf5 := (unhide X7).free 5
      have hf6 := (unhide X7).free 6
      have hf7 := (unhide X7).free 7
      have F2 := hide (off_box (unhide O2) (unhide V7))
      by_cases z2 : d2 = 0
      · subst z2
        have TS := hide (show y2.b.ts = x.b.ts from (carried_ts (unhide HO)).trans (posted_ts (unhide HPX)))
        have tk : k < y2.b.ts.length := by rw [unhide TS]; exact t
        have ny : y2.b.ts.length ≤ 1048576 := by rw [unhide TS]; exact nt
        have IZ := hide (show IsSettle x.b no fk (withS y2 k 2).b (IntKind.i64.wrap (p6 - t2)) 0 from by
          refine .inr ⟨k, unhide KK, .inr ?_⟩
          rw [unhide HPP]
          obtain ⟨b2, k2, c2, ht, ⟨hne, _, hc⟩ | ⟨rfl, ho, rfl⟩⟩ := unhide HO
          · exact absurd hc.symm hne
          · exact ⟨unhide HST, y1.b, 0, unhide HPX, .inr ⟨rfl, b2, _, 0, ht, .inr ⟨rfl, y2.b, 0, ho, .inr ⟨rfl, rfl, rfl, rfl⟩⟩⟩⟩)
        have e7 := ((unhide O2).ot.at k tk).2.2.2.2.2.2.2
        have e8 := (unhide O2).ot.free (k * 8 + 7)
        have gy := (unhide O2).ot.lt
        have m1 := (unhide F2).2.2.2.2
        have m2 : y2.gt ≠ w.heap.size + 1 := by omega
        have m3 : y2.gt ≠ w2.heap.size := by have := (unhide T3).lt; omega
        go_wp2_with fail
        refine to_wc (fun W => SR w W x ∧ Box8 W w.heap.size w2.heap.size (p0, p1, p2, p3, p4, p5, p6, p7) ∧ Box W w.heap.size w3.heap.size (.slice (some ⟨y2.ga, 0, none⟩) y2.b.ac.length y2.ca) (.slice (some ⟨y2.gi, 0, none⟩) y2.b.ic.length y2.ci) (.slice (some ⟨y2.gb, 0, none⟩) y2.b.bs.length y2.cb) (.slice (some ⟨y2.gl, 0, none⟩) y2.b.ls.length y2.cl) (.slice (some ⟨y2.gt, 0, none⟩) y2.b.ts.length y2.ct) (.int .i64 y2.b.lot) ∧ Ow W w3.heap.size (withS y2 k 2)) ?_ ?_
        · have G1 := (box_six (unhide V7) (.slice (some ⟨y2.ga, 0, none⟩) y2.b.ac.length y2.ca) (.slice (some ⟨y2.gi, 0, none⟩) y2.b.ic.length y2.ci) (.slice (some ⟨y2.gb, 0, none⟩) y2.b.bs.length y2.cb) (.slice (some ⟨y2.gl, 0, none⟩) y2.b.ls.length y2.cl) (.slice (some ⟨y2.gt, 0, none⟩) y2.b.ts.length y2.ct) (.int .i64 y2.b.lot))
          have OO := ow_six (unhide O2) (unhide F2) (.slice (some ⟨y2.ga, 0, none⟩) y2.b.ac.length y2.ca) (.slice (some ⟨y2.gi, 0, none⟩) y2.b.ic.length y2.ci) (.slice (some ⟨y2.gb, 0, none⟩) y2.b.bs.length y2.cb) (.slice (some ⟨y2.gl, 0, none⟩) y2.b.ls.length y2.cl) (.slice (some ⟨y2.gt, 0, none⟩) y2.b.ts.length y2.ct) (.int .i64 y2.b.lot)
          have G2 := state_grown OO k 2
          exact ⟨SIssue.SR.grown (unhide HR) (SIssue.SR.grown (unhide HR) (unhide S7) G1.2 (by omega)) G2 (by omega), ((unhide X7).kept G1.2 (fun e => by injection e; omega)).kept G2 (fun e => by injection e; omega), G1.1.kept G2 (fun e => by injection e; omega), ow_state OO k 2⟩
        rintro W9 ⟨AS', XS', VS', OS'⟩
        have A9 := hide AS'
        have X9 := hide XS'
        have V9 := hide VS'
        have O9 := hide OS'
        clear AS' XS' VS' OS' e7 e8
        clear a0 a1 a2 a3 a4 a5 af0 af1 af2 af3 af4 af5 h0 h1 h2 h3 h4 h5 h6 h7 hf0 hf1 hf2 hf3 hf4 hf5 hf6 hf7
        have KW := And.intro (unhide V9).c0 (And.intro (unhide V9).c1 (And.intro (unhide V9).c2 (And.intro (unhide V9).c3 (And.intro (unhide V9).c4 (And.intro (unhide V9).c5 (unhide X9).c6)))))
        have s0 := (unhide A9).v.c0
        have s1 := (unhide A9).v.c1
        have s2 := (unhide A9).v.c2
        have s3 := (unhide A9).v.c3
        have s4 := (unhide A9).v.c4
        have s5 := (unhide A9).v.c5
        have sf0 := (unhide A9).v.free 0
        have sf1 := (unhide A9).v.free 1
        have sf2 := (unhide A9).v.free 2
        have sf3 := (unhide A9).v.free 3
        have sf4 := (unhide A9).v.free 4
        have sf5 := (unhide A9).v.free 5
        have U9 := hide (box_six (unhide A9).v (.slice (some ⟨y2.ga, 0, none⟩) y2.b.ac.length y2.ca) (.slice (some ⟨y2.gi, 0, none⟩) y2.b.ic.length y2.ci) (.slice (some ⟨y2.gb, 0, none⟩) y2.b.bs.length y2.cb) (.slice (some ⟨y2.gl, 0, none⟩) y2.b.ls.length y2.cl) (.slice (some ⟨y2.gt, 0, none⟩) y2.b.ts.length y2.ct) (.int .i64 y2.b.lot))
        have VU := hide (Box.below ((unhide V9).kept (unhide U9).2 (fun e => by injection e; omega)) (Below.refl _ _).drew (by simpa using (unhide V9).lt.2))
        have XU := hide (Box8.below ((unhide X9).kept (unhide U9).2 (fun e => by injection e; omega)) (Below.refl _ _).drew (by simpa using (unhide X9).lt.2))
        have VD := hide ((unhide V9).below (Below.refl _ _).drew (unhide V9).lt.2)
        have XD := hide ((unhide X9).below (Below.refl _ _).drew (unhide X9).lt.2)
        have K9 := And.intro (unhide VD).c0 (And.intro (unhide VD).c1 (And.intro (unhide VD).c2 (And.intro (unhide VD).c3 (And.intro (unhide VD).c4 (And.intro (unhide VD).c5 (unhide XD).c6)))))
        have K10 := And.intro (unhide VU).c0 (And.intro (unhide VU).c1 (And.intro (unhide VU).c2 (And.intro (unhide VU).c3 (And.intro (unhide VU).c4 (And.intro (unhide VU).c5 (unhide XU).c6)))))
        have r0 := (unhide A9).v.c0
        have r1 := (unhide A9).v.c1
        have r2 := (unhide A9).v.c2
        have r3 := (unhide A9).v.c3
        have r4 := (unhide A9).v.c4
        have r5 := (unhide A9).v.c5
        have f0 := (unhide A9).v.free 0
        have f1 := (unhide A9).v.free 1
        have f2 := (unhide A9).v.free 2
        have f3 := (unhide A9).v.free 3
        have f4 := (unhide A9).v.free 4
        have f5 := (unhide A9).v.free 5
        have F9 := hide (off_box (unhide O9) (unhide A9).v)
        go_region_held3 (fun w' => w'.cell? ⟨w3.heap.size, 0, none⟩ = some (.slice (some ⟨y2.ga, 0, none⟩) y2.b.ac.length y2.ca) ∧ w'.cell? ⟨w3.heap.size, 1, none⟩ = some (.slice (some ⟨y2.gi, 0, none⟩) y2.b.ic.length y2.ci) ∧ w'.cell? ⟨w3.heap.size, 2, none⟩ = some (.slice (some ⟨y2.gb, 0, none⟩) y2.b.bs.length y2.cb) ∧ w'.cell? ⟨w3.heap.size, 3, none⟩ = some (.slice (some ⟨y2.gl, 0, none⟩) y2.b.ls.length y2.cl) ∧ w'.cell? ⟨w3.heap.size, 4, none⟩ = some (.slice (some ⟨y2.gt, 0, none⟩) y2.b.ts.length y2.ct) ∧ w'.cell? ⟨w3.heap.size, 5, none⟩ = some (.int .i64 y2.b.lot) ∧ w'.cell? ⟨w2.heap.size, 6, none⟩ = some (.int .i64 p6)) (first | with_reducible exact KW | with_reducible exact K9 | with_reducible exact K10) (fail)
        go_wp2
        refine to_wb (fun W => Box W w.heap.size (w.heap.size + 1) (.slice (some ⟨y2.ga, 0, none⟩) y2.b.ac.length y2.ca) (.slice (some ⟨y2.gi, 0, none⟩) y2.b.ic.length y2.ci) (.slice (some ⟨y2.gb, 0, none⟩) y2.b.bs.length y2.cb) (.slice (some ⟨y2.gl, 0, none⟩) y2.b.ls.length y2.cl) (.slice (some ⟨y2.gt, 0, none⟩) y2.b.ts.length y2.ct) (.int .i64 y2.b.lot) ∧ Below w.heap.size w W ∧ Ow W w.heap.size (withS y2 k 2)) ?_ ?_
        · exact ⟨Box.below (unhide U9).1 (Below.refl _ _).drew (by have := (unhide A9).v.lt.2; simpa using this), (six (unhide A9).b (by omega) _ _ _ _ _ _).drew, (Ow.below (ow_six (unhide O9) (unhide F9) _ _ _ _ _ _) (Below.refl _ _).drew (Nat.le_refl _)).rebase (unhide S3).b.size⟩
        rintro W ⟨X, B, OW⟩
        have g0 := X.c0
        have g1 := X.c1
        have g2 := X.c2
        have g3 := X.c3
        have g4 := X.c4
        have g5 := X.c5
        exact bodyPost_ret (v := .tuple #[.agg #[.slice (some ⟨y2.ga, 0, none⟩) y2.b.ac.length y2.ca, .slice (some ⟨y2.gi, 0, none⟩) y2.b.ic.length y2.ci, .slice (some ⟨y2.gb, 0, none⟩) y2.b.bs.length y2.cb, .slice (some ⟨y2.gl, 0, none⟩) y2.b.ls.length y2.cl, .slice (some ⟨y2.gt, 0, none⟩) y2.b.ts.length y2.ct, .int .i64 y2.b.lot], .int .i64 (IntKind.i64.wrap (p6 - t2)), .int .i64 0]) (by simp [results, Tryz.results12, go_sem, g0, g1, g2, g3, g4, g5]) rfl (.inr ⟨unhide TT, withS y2 k 2, _, 0, unhide IZ, by simp [set_len], OW, B⟩)
      · have z2c : (d2 != 0) = true := ne_true z2
        have IZ2 := hide (show IsSettle x.b no fk x.b 0 d2 from by
          refine .inr ⟨k, unhide KK, .inr ?_⟩
          rw [unhide HPP]
          obtain ⟨b2, k2, c2, ht, ⟨hne, _, rfl⟩ | ⟨rfl, ho, rfl⟩⟩ := unhide HO
          · exact ⟨unhide HST, y1.b, 0, unhide HPX, .inr ⟨rfl, b2, k2, _, ht, .inl ⟨hne, rfl, rfl, rfl⟩⟩⟩
          · exact ⟨unhide HST, y1.b, 0, unhide HPX, .inr ⟨rfl, b2, _, 0, ht, .inr ⟨rfl, y2.b, d2, ho, .inl ⟨z2, rfl, rfl, rfl⟩⟩⟩⟩)
        clear z2
        have TG := hide (SIssue.SR.grown (unhide HR) (unhide S7) (box_six (unhide V7) (.slice (some ⟨y2.ga, 0, none⟩) y2.b.ac.length y2.ca) (.slice (some ⟨y2.gi, 0, none⟩) y2.b.ic.length y2.ci) (.slice (some ⟨y2.gb, 0, none⟩) y2.b.bs.length y2.cb) (.slice (some ⟨y2.gl, 0, none⟩) y2.b.ls.length y2.cl) (.slice (some ⟨y2.gt, 0, none⟩) y2.b.ts.length y2.ct) (.int .i64 y2.b.lot)).2 (by omega))
        obtain ⟨c0, c1, c2, c3, c4, c5⟩ := (unhide S7).c
        have r0 := (unhide S7).v.c0
        have r1 := (unhide S7).v.c1
        have r2 := (unhide S7).v.c2
        have r3 := (unhide S7).v.c3
        have r4 := (unhide S7).v.c4
        have r5 := (unhide S7).v.c5
        have f0 := (unhide S7).v.free 0
        have f1 := (unhide S7).v.free 1
        have f2 := (unhide S7).v.free 2
        have f3 := (unhide S7).v.free 3
        have f4 := (unhide S7).v.free 4
        have f5 := (unhide S7).v.free 5
        go_wp2_with fail
        refine (SCopy.sCopy _ x (unhide TG).r).mono ?_
        rintro e w8 ⟨z, hz, rfl, oz, bb⟩
        have S8 := hide ((unhide TG).step bb)
        have OZ := hide (oz.rebase (unhide TG).b.size)
        have LZ := hide (ow_lo oz)
        have zl := (unhide TG).v.lt.2
        have IZ := hide (show IsSettle x.b no fk z.b 0 d2 from by rw [hz]; exact (unhide IZ2))
        clear bb oz hz
        clear c0 c1 c2 c3 c4 c5 r0 r1 r2 r3 r4 r5 f0 f1 f2 f3 f4 f5
        obtain ⟨c0, c1, c2, c3, c4, c5⟩ := (unhide S8).c
        have r0 := (unhide S8).v.c0
        have r1 := (unhide S8).v.c1
        have r2 := (unhide S8).v.c2
        have r3 := (unhide S8).v.c3
        have r4 := (unhide S8).v.c4
        have r5 := (unhide S8).v.c5
        have f0 := (unhide S8).v.free 0
        have f1 := (unhide S8).v.free 1
        have f2 := (unhide S8).v.free 2
        have f3 := (unhide S8).v.free 3
        have f4 := (unhide S8).v.free 4
        have f5 := (unhide S8).v.free 5
        go_wp2
        refine bodyPost_ret (v := .tuple #[.agg #[.slice (some ⟨z.ga, 0, none⟩) z.b.ac.length z.ca, .slice (some ⟨z.gi, 0, none⟩) z.b.ic.length z.ci, .slice (some ⟨z.gb, 0, none⟩) z.b.bs.length z.cb, .slice (some ⟨z.gl, 0, none⟩) z.b.ls.length z.cl, .slice (some ⟨z.gt, 0, none⟩) z.b.ts.length z.ct, .int .i64 z.b.lot], .int .i64 0, .int .i64 d2]) (by simp [results, Tryz.results12, go_sem, r0, r1, r2, r3, r4, r5]) rfl (.inr ⟨unhide TT, z, 0, d2, unhide IZ, rfl, ?_, ?_⟩)
        · exact ow_six (unhide OZ) (off_lo (unhide LZ) zl) _ _ _ _ _ _
        · exact six (unhide S8).b (by omega) _ _ _ _ _ _
    · have z1b : (e1 == 0) = false := SIssue.eq_false z1
      have z1c : (e1 != 0) = true := ne_true z1
      have IZ1 := hide (show IsSettle x.b no fk x.b 0 e1 from by
        refine .inr ⟨k, unhide KK, .inr ?_⟩
        rw [unhide HPP]
        exact ⟨unhide HST, y1.b, e1, unhide HPX, .inl ⟨z1, rfl, rfl, rfl⟩⟩)
      clear z1
      obtain ⟨c0, c1, c2, c3, c4, c5⟩ := (unhide AS).c
      have r0 := (unhide AS).v.c0
      have r1 := (unhide AS).v.c1
      have r2 := (unhide AS).v.c2
      have r3 := (unhide AS).v.c3
      have r4 := (unhide AS).v.c4
      have r5 := (unhide AS).v.c5
      have f0 := (unhide AS).v.free 0
      have f1 := (unhide AS).v.free 1
      have f2 := (unhide AS).v.free 2
      have f3 := (unhide AS).v.free 3
      have f4 := (unhide AS).v.free 4
      have f5 := (unhide AS).v.free 5
      go_wp2_with fail
      refine (SCopy.sCopy _ x (unhide AS).r).mono ?_
      rintro e w8 ⟨z, hz, rfl, oz, bb⟩
      have S8 := hide ((unhide AS).step bb)
      have OZ := hide (oz.rebase (unhide AS).b.size)
      have LZ := hide (ow_lo oz)
      have zl := (unhide AS).v.lt.2
      have IZ := hide (show IsSettle x.b no fk z.b 0 e1 from by rw [hz]; exact (unhide IZ1))
      clear bb oz hz
      clear c0 c1 c2 c3 c4 c5 r0 r1 r2 r3 r4 r5 f0 f1 f2 f3 f4 f5
      obtain ⟨c0, c1, c2, c3, c4, c5⟩ := (unhide S8).c
      have r0 := (unhide S8).v.c0
      have r1 := (unhide S8).v.c1
      have r2 := (unhide S8).v.c2
      have r3 := (unhide S8).v.c3
      have r4 := (unhide S8).v.c4
      have r5 := (unhide S8).v.c5
      have f0 := (unhide S8).v.free 0
      have f1 := (unhide S8).v.free 1
      have f2 := (unhide S8).v.free 2
      have f3 := (unhide S8).v.free 3
      have f4 := (unhide S8).v.free 4
      have f5 := (unhide S8).v.free 5
      go_wp2
      refine bodyPost_ret (v := .tuple #[.agg #[.slice (some ⟨z.ga, 0, none⟩) z.b.ac.length z.ca, .slice (some ⟨z.gi, 0, none⟩) z.b.ic.length z.ci, .slice (some ⟨z.gb, 0, none⟩) z.b.bs.length z.cb, .slice (some ⟨z.gl, 0, none⟩) z.b.ls.length z.cl, .slice (some ⟨z.gt, 0, none⟩) z.b.ts.length z.ct, .int .i64 z.b.lot], .int .i64 0, .int .i64 e1]) (by simp [results, Tryz.results12, go_sem, r0, r1, r2, r3, r4, r5]) rfl (.inr ⟨unhide TT, z, 0, e1, unhide IZ, rfl, ?_, ?_⟩)
      · exact ow_six (unhide OZ) (off_lo (unhide LZ) zl) _ _ _ _ _ _
      · exact six (unhide S8).b (by omega) _ _ _ _ _ _
end Go.Proofs.YtpdgljjndgikoaaGreat.SSettle
namespace Go.Proofs.YtpdgljjndgikoaaGreat.ICmdF
open Go.ChangeShapes Go.WideShapes Go.ChangeAt Go.RowKit BMem Bks ILists BHelp Ans ICopied ICmdB ICmdW
open SIssue (off_box)
open SMove (AnsM)
def Fin (told : Prop) (b : Bk) (P : Bk → Int → Int → Prop) (base : Nat) (a0 a1 a2 a3 a4 : Option Addr) (n0 n1 n2 n3 n4 k0 k1 k2 k3 k4 : Nat) (l : Int) (t c : Int) (W : World) : Prop :=
  (¬ told ∧ (a0 = none ∧ n0 = 0 ∧ k0 = 0 ∧ a1 = none ∧ n1 = 0 ∧ k1 = 0 ∧ a2 = none ∧ n2 = 0 ∧ k2 = 0 ∧ a3 = none ∧ n3 = 0 ∧ k3 = 0 ∧ a4 = none ∧ n4 = 0 ∧ k4 = 0 ∧ l = 0) ∧ t = 0 ∧ c = 1) ∨
  (told ∧ ∃ (z : Bx) (b' : Bk) (t' : Int), P b' t' c ∧ (a0 = some ⟨z.ga, 0, none⟩ ∧ n0 = z.b.ac.length ∧ k0 = z.ca ∧ a1 = some ⟨z.gi, 0, none⟩ ∧ n1 = z.b.ic.length ∧ k1 = z.ci ∧ a2 = some ⟨z.gb, 0, none⟩ ∧ n2 = z.b.bs.length ∧ k2 = z.cb ∧ a3 = some ⟨z.gl, 0, none⟩ ∧ n3 = z.b.ls.length ∧ k3 = z.cl ∧ a4 = some ⟨z.gt, 0, none⟩ ∧ n4 = z.b.ts.length ∧ k4 = z.ct ∧ l = z.b.lot) ∧ ((c = 0 ∧ z.b = b' ∧ t = t') ∨ (c ≠ 0 ∧ z.b = b ∧ t = 0)) ∧ Ow W base z)
section
variable {told : Prop} {b : Bk} {P : Bk → Int → Int → Prop} {base : Nat} {a0 a1 a2 a3 a4 : Option Addr} {n0 n1 n2 n3 n4 k0 k1 k2 k3 k4 : Nat} {l : Int} {t c : Int} {W W' : World}
theorem Fin.map (h : Fin told b P base a0 a1 a2 a3 a4 n0 n1 n2 n3 n4 k0 k1 k2 k3 k4 l t c W) (f : ∀ z, Ow W base z → Ow W' base z) : Fin told b P base a0 a1 a2 a3 a4 n0 n1 n2 n3 n4 k0 k1 k2 k3 k4 l t c W' := by
  rcases h with h | ⟨h, z, b', t', h1, h2, h3, h4⟩
  · exact .inl h
  · exact .inr ⟨h, z, b', t', h1, h2, h3, f z h4⟩
theorem Fin.rebase {base' : Nat} (h : Fin told b P base a0 a1 a2 a3 a4 n0 n1 n2 n3 n4 k0 k1 k2 k3 k4 l t c W) (hb : base' ≤ base) : Fin told b P base' a0 a1 a2 a3 a4 n0 n1 n2 n3 n4 k0 k1 k2 k3 k4 l t c W := by
  rcases h with h | ⟨h, z, b', t', h1, h2, h3, h4⟩
  · exact .inl h
  · exact .inr ⟨h, z, b', t', h1, h2, h3, h4.rebase hb⟩
theorem Fin.alloc (h : Fin told b P base a0 a1 a2 a3 a4 n0 n1 n2 n3 n4 k0 k1 k2 k3 k4 l t c W) (o : Obj) : Fin told b P base a0 a1 a2 a3 a4 n0 n1 n2 n3 n4 k0 k1 k2 k3 k4 l t c (W.alloc o) := h.map fun z O => ow_alloc O o
theorem Fin.drew (h : Fin told b P base a0 a1 a2 a3 a4 n0 n1 n2 n3 n4 k0 k1 k2 k3 k4 l t c W) : Fin told b P base a0 a1 a2 a3 a4 n0 n1 n2 n3 n4 k0 k1 k2 k3 k4 l t c W.drew := h.map fun z O => ow_drew O
theorem Fin.six {base' g : Nat} {v0 v1 v2 v3 v4 v5 : Value} (h : Fin told b P base a0 a1 a2 a3 a4 n0 n1 n2 n3 n4 k0 k1 k2 k3 k4 l t c W) (B : Box W base' g v0 v1 v2 v3 v4 v5) (u0 u1 u2 u3 u4 u5 : Value) : Fin told b P base a0 a1 a2 a3 a4 n0 n1 n2 n3 n4 k0 k1 k2 k3 k4 l t c ((((((W.setCell ⟨g, 0, none⟩ u0).setCell ⟨g, 1, none⟩ u1).setCell ⟨g, 2, none⟩ u2).setCell ⟨g, 3, none⟩ u3).setCell ⟨g, 4, none⟩ u4).setCell ⟨g, 5, none⟩ u5) :=
  h.map fun z O => ow_six O (off_box O B) _ _ _ _ _ _
end
theorem fin_of {told : Prop} {b : Bk} {P : Bk → Int → Int → Prop} {w w' : World} {e : Ending} (h : AnsC told b P w e w') :
    ∃ (a0 a1 a2 a3 a4 : Option Addr) (n0 n1 n2 n3 n4 k0 k1 k2 k3 k4 : Nat) (l : Int) (t c : Int), e = .returned (.tuple #[.agg #[.slice a0 n0 k0, .slice a1 n1 k1, .slice a2 n2 k2, .slice a3 n3 k3, .slice a4 n4 k4, .int .i64 l], .int .i64 t, .int .i64 c]) ∧ Fin told b P w.heap.size a0 a1 a2 a3 a4 n0 n1 n2 n3 n4 k0 k1 k2 k3 k4 l t c w' ∧ Below w.heap.size w w' := by
  rcases h with ⟨N, rfl, bb⟩ | ⟨T, b', t, c, z, hP, ⟨h1, h2, rfl⟩ | ⟨h1, h2, rfl⟩, oz, bb⟩
  · exact ⟨none, none, none, none, none, 0, 0, 0, 0, 0, 0, 0, 0, 0, 0, 0, 0, 1, rfl, .inl ⟨N, ⟨rfl, rfl, rfl, rfl, rfl, rfl, rfl, rfl, rfl, rfl, rfl, rfl, rfl, rfl, rfl, rfl⟩, rfl, rfl⟩, bb⟩
  · exact ⟨_, _, _, _, _, _, _, _, _, _, _, _, _, _, _, _, t, c, rfl, .inr ⟨T, z, b', t, hP, ⟨rfl, rfl, rfl, rfl, rfl, rfl, rfl, rfl, rfl, rfl, rfl, rfl, rfl, rfl, rfl, rfl⟩, .inl ⟨h1, h2, rfl⟩, oz⟩, bb⟩
  · exact ⟨_, _, _, _, _, _, _, _, _, _, _, _, _, _, _, _, 0, c, rfl, .inr ⟨T, z, b', t, hP, ⟨rfl, rfl, rfl, rfl, rfl, rfl, rfl, rfl, rfl, rfl, rfl, rfl, rfl, rfl, rfl, rfl⟩, .inr ⟨h1, h2, rfl⟩, oz⟩, bb⟩
theorem fin_ansM {told : Prop} {b : Bk} {P Q : Bk → Int → Int → Prop} {w W : World} {base : Nat} {a0 a1 a2 a3 a4 : Option Addr} {n0 n1 n2 n3 n4 k0 k1 k2 k3 k4 : Nat} {l : Int} {t c : Int} (h : Fin told b P base a0 a1 a2 a3 a4 n0 n1 n2 n3 n4 k0 k1 k2 k3 k4 l t c W) (hb : w.heap.size ≤ base) (B : Below w.heap.size w W)
    (h0 : ∀ b' t, P b' t 0 → Q b' t 0) (h1 : ∀ b' t c, P b' t c → c ≠ 0 → Q b 0 c) : AnsM told Q w (.returned (.tuple #[.agg #[.slice a0 n0 k0, .slice a1 n1 k1, .slice a2 n2 k2, .slice a3 n3 k3, .slice a4 n4 k4, .int .i64 l], .int .i64 t, .int .i64 c])) W := by
  rcases h with ⟨N, ⟨rfl, rfl, rfl, rfl, rfl, rfl, rfl, rfl, rfl, rfl, rfl, rfl, rfl, rfl, rfl, rfl⟩, rfl, rfl⟩ | ⟨T, z, b', t', hP, ⟨rfl, rfl, rfl, rfl, rfl, rfl, rfl, rfl, rfl, rfl, rfl, rfl, rfl, rfl, rfl, rfl⟩, ⟨rfl, rfl, rfl⟩ | ⟨hc, hz, rfl⟩, oz⟩
  · exact .inl ⟨N, rfl, B⟩
  · exact .inr ⟨T, z, t, 0, h0 _ _ hP, rfl, oz.rebase hb, B⟩
  · exact .inr ⟨T, z, 0, c, by rw [hz]; exact h1 _ _ _ hP hc, rfl, oz.rebase hb, B⟩
end Go.Proofs.YtpdgljjndgikoaaGreat.ICmdF
namespace Go.Proofs.YtpdgljjndgikoaaGreat.IPostB
open Go.ChangeShapes Go.WideShapes Go.ChangeAt Go.RowKit BMem Bks ILists BHelp Ans ICopied ICmdB IHave SBk
open IBalsFit (one_more all_one)
open ITrade (at_new)
open Lots (Says says_of NoOk)
open Bals (T3)
open Tup5 (T5)
set_option maxRecDepth 100000 in
set_option maxHeartbeats 4000000 in
theorem iPostT (u : World) (z : Bx) (base g gL capL : Nat) (ls : List T3) (ok : Lists z.b) (sm : Small z.b) (V : Var u base g z) (O : Ow u (base + 4) z) (hg : g < base + 4) (hl : ls.length ≤ 1048576) (hgL : gL < u.heap.size) (hL : Triples.At3 u gL ls) (hf : Bals.Formed ls) (he : Bals.Even ls) :
    Calls Tryz.prog 131 #[.pointer (some ⟨g, 0, none⟩), .slice (some ⟨gL, 0, none⟩) ls.length capL] u fun e u' => ∃ (y : Bx) (c : Int), IsPosted z.b ls y.b c ∧ e = .returned (.int .i64 c) ∧ Var u' base g y ∧ Ow u' (base + 4) y ∧ u.grownBy u' (some g) ∧ y.gt = z.gt ∧ y.ct = z.ct := by
  have PC := hide (fun qs c (hp : Bals.IsPost z.b.bs ls (shortL z.b.ac) qs c) => post_code hp ok.2.2.1 hf he (Nat.le_trans (short_len _) ok.1.1))
  have xl : (shortL z.b.ac).length ≤ 1048576 := Nat.le_trans (short_len _) sm.1
  have na := sm.1
  have nb := sm.2.2.1
  have L0 := hide hL
  have S0 := hide (DW.start V O sm)
  have S1 := hide ((unhide S0).step (one_more u (.cells #[] 3)))
  have O1 := hide (Shorts.lit0 u u.heap.size (Nat.le_refl _) rfl)
  have hb0 := O.oa.lt
  have hgu := Box.lt V
  have d0 := (unhide S1).v.c0
  have d2 := (unhide S1).v.c2
  have z1 : u.heap.size < (u.alloc (.cells #[] 3)).heap.size := by simp
  clear ok V O hf he hL sm
  go_enter Tryz.func131, Tryz.ntmps131
  go_wp2
  generalize u.alloc (.cells #[] 3) = u1 at *
  clear d0 d2
  go_loopw [5, 16] (fun l j wr => ∃ (p : List Int) (g1 c1 k : Nat), l = .slice (some ⟨g1, 0, none⟩) p.length c1 ∧ j = .int .i64 k ∧ k ≤ z.b.ac.length ∧ p.length ≤ k ∧ Hid (p = shortL (z.b.ac.take k)) ∧ Hid (Ints.Own wr u.heap.size g1 p.length c1 p) ∧ Hid (DW u wr z base g)) (fun _ j _ => z.b.ac.length - (intOf j).toNat)
  case atStart => exact ⟨[], u.heap.size, 0, 0, rfl, rfl, by omega, by simp, hide rfl, O1, S1⟩
  case round =>
    clear O1 S1
    obtain ⟨p, g1, c1, k, rfl, rfl, hk, pl, HP, H1, S2⟩ := hrel
    have bs := (unhide S2).b.size
    by_cases t : k < z.b.ac.length
    · obtain ⟨e0, e1⟩ := (unhide S2).r.ra k t
      have NP := hide (short_next (ps := z.b.ac) (k := k) t)
      rw [← unhide HP] at NP
      obtain ⟨no, hno⟩ : ∃ no, Hid ((z.b.ac.getD k (0, 0)).1 = no) := ⟨_, rfl⟩
      obtain ⟨kd, hkd⟩ : ∃ kd, Hid ((z.b.ac.getD k (0, 0)).2 = kd) := ⟨_, rfl⟩
      rw [unhide hno] at e0
      rw [unhide hkd] at e1
      have NQ := hide (show shortL (z.b.ac.take (k + 1)) = p ++ (if kd = 1 then [] else [no]) from by
        first | (rw [unhide NP, ← unhide hno, ← unhide hkd]; done) | (rw [unhide NP, ← unhide hno, ← unhide hkd]; rfl))
      clear NP hno hkd
      have S3 := hide ((unhide S2).step (one_more wr (.cells #[.int .i64 no, .int .i64 kd] 91)))
      have H3 := hide (Shorts.own_alloc (unhide H1) (.cells #[.int .i64 no, .int .i64 kd] 91))
      by_cases own : kd = 1
      · have NP1 : Hid (shortL (z.b.ac.take (k + 1)) = p) := hide (by rw [unhide NQ, if_pos own, List.append_nil])
        clear NQ
        subst own
        go_wp2
        go_roundw
        case rel => exact ⟨p, g1, c1, k + 1, rfl, by go_num, by omega, by omega, hide (unhide NP1).symm, H3, S3⟩
        case measure => simp [intOf]; omega
      · have NP1 : Hid (shortL (z.b.ac.take (k + 1)) = p ++ [no]) := hide (by rw [unhide NQ, if_neg own])
        have ob : (kd != 1) = true := by simpa using own
        clear NQ own
        go_wp2_with (first | (at_builtin; refine Shorts.wp_appI _ rfl _ _ rfl u.heap.size g1 p.length c1 p (wr.heap.size + 1) no rfl rfl (Shorts.own_alloc (unhide H3) _) (by simp) (by omega) (by simp; omega) ?_) | go_in)
        intro g5 c5 w5 o5 gr5 loc5
        have O5 := hide o5
        have S5 := hide (show DW u w5 z base g from by
          have l := (unhide H1).lt
          have s4 := (unhide S3).step (one_more (wr.alloc (.cells #[.int .i64 no, .int .i64 kd] 91)) (.cells #[.int .i64 no] 3))
          have b5 : Below u.heap.size u w5 := s4.b.grown gr5 (by simp; omega) (fun j hj => by cases hj; exact l.1)
          have lz := ow_up (unhide S0).o
          exact ⟨(unhide S0).r.below b5, Box.below (unhide S0).v b5 hgu.2, (unhide S0).o.below b5 (Nat.le_refl _), b5⟩)
        clear o5 gr5 loc5
        go_wp2
        go_roundw
        case rel => exact ⟨p ++ [no], g5, c5, k + 1, by rw [show (p ++ [no]).length = p.length + 1 by simp], by go_num, by omega, by simp; omega, hide (unhide NP1).symm, hide (by rw [show (p ++ [no]).length = p.length + 1 by simp]; exact unhide O5), S5⟩
        case measure => simp [intOf]; omega
    · obtain rfl : k = z.b.ac.length := by omega
      have EP := hide (show p = shortL z.b.ac by rw [unhide HP, List.take_of_length_le (by omega)])
      have pl2 : p.length ≤ 1048576 := by omega
      clear HP
      have d2 := (unhide S2).v.c2
      go_wp2_with fail
      refine (Post2.iBalsPost wr z.gb _ z.cb gL _ capL g1 _ c1 z.b.bs ls p rfl rfl rfl nb hl pl2 (unhide S2).r.lb (Nat.lt_of_lt_of_le hgL (unhide S2).b.size) (unhide H1).lt.2 (unhide S2).r.rb ((unhide L0).below (unhide S2).b hgL) (unhide H1).at).mono ?_
      rintro e w3 ⟨qs, pc, g5, k5, hp, rfl, o5, bb⟩
      rw [unhide EP] at hp
      have S3 := hide ((unhide S2).step bb)
      have HP := hide hp
      have O5 := hide o5
      have l5 := o5.lt
      clear bb hp o5 d2
      have e2 := (unhide S3).v.c2
      have f2 := (unhide S3).v.free 2
      rcases (unhide PC) _ _ (unhide HP) with rfl | rfl | rfl | rfl
      · have OY := hide (ow_withB (unhide S3).o ((unhide O5).rebase (base' := base + 4) (by omega)))
        have UZ := hide (ow_up (unhide S0).o)
        go_wp2
        go_ret
        refine ⟨withB z g5 k5 qs, 0, ⟨qs, 0, unhide HP, .inl ⟨rfl, rfl, rfl⟩⟩, rfl, (Box.set2 (unhide S3).v _).1, ?_, Pairs.grown_trans (unhide S3).grown (Box.set2 (unhide S3).v _).2, rfl, rfl⟩
        refine ow_set (unhide OY) ?_ 2 _
        have LO := ow_lo (unhide S0).o
        unfold Lo at LO
        unfold Off
        simp
        omega
      · go_wp2
        go_ret
        exact ⟨z, 5, ⟨qs, 3, unhide HP, .inr (.inl ⟨rfl, rfl, rfl⟩)⟩, rfl, (unhide S3).v, (unhide S3).o, (unhide S3).grown, rfl, rfl⟩
      · go_wp2
        go_ret
        exact ⟨z, 8, ⟨qs, 4, unhide HP, .inr (.inr (.inl ⟨rfl, rfl, rfl⟩))⟩, rfl, (unhide S3).v, (unhide S3).o, (unhide S3).grown, rfl, rfl⟩
      · go_wp2
        go_ret
        exact ⟨z, 7, ⟨qs, 5, unhide HP, .inr (.inr (.inr ⟨rfl, rfl, rfl⟩))⟩, rfl, (unhide S3).v, (unhide S3).o, (unhide S3).grown, rfl, rfl⟩
end Go.Proofs.YtpdgljjndgikoaaGreat.IPostB
namespace Go.Proofs.YtpdgljjndgikoaaGreat.ITakeBk
open Go.ChangeShapes Go.WideShapes Go.ChangeAt Go.RowKit BMem Bks ILists BHelp Ans ICopied ICmdB IHave SBk
open IBalsFit (one_more all_one)
open Lots (Says says_of NoOk)
open Bals (T3)
open Tup5 (T5)
open Concat5 (OwnV)
open ILotsFit (below_of_drew)
structure OwL (w : World) (base : Nat) (x : Bx) (v : Value) : Prop where
  oa : Pairs.Own 91 w base x.ga x.b.ac.length x.ca x.b.ac
  oi : Pairs.Own 94 w base x.gi x.b.ic.length x.ci x.b.ic
  ob : Triples.Own3 98 w base x.gb x.b.bs.length x.cb x.b.bs
  ol : OwnV 102 w base v x.b.ls
  ot : Tup8.Own8 57 w base x.gt x.b.ts.length x.ct x.b.ts
theorem OwL.of {w : World} {base : Nat} {x : Bx} (h : Ow w base x) : OwL w base x (.slice (some ⟨x.gl, 0, none⟩) x.b.ls.length x.cl) := ⟨h.oa, h.oi, h.ob, Concat5.OwnV.of h.ol, h.ot⟩
theorem OwL.below {w w' : World} {base B : Nat} {x : Bx} {v : Value} (h : OwL w base x v) (k : Below B w w') (hB : w.heap.size ≤ B) : OwL w' base x v :=
  ⟨h.oa.below k (by have := h.oa.lt; omega), h.oi.below k (by have := h.oi.lt; omega), h.ob.below k (by have := h.ob.lt; omega), h.ol.below k (fun g hg => by have := h.ol.lt g hg; omega), h.ot.below k (by have := h.ot.lt; omega)⟩
def VarL (w : World) (base g : Nat) (x : Bx) (v : Value) : Prop := Box w base g (.slice (some ⟨x.ga, 0, none⟩) x.b.ac.length x.ca) (.slice (some ⟨x.gi, 0, none⟩) x.b.ic.length x.ci) (.slice (some ⟨x.gb, 0, none⟩) x.b.bs.length x.cb) v (.slice (some ⟨x.gt, 0, none⟩) x.b.ts.length x.ct) (.int .i64 x.b.lot)
theorem VarL.any {w : World} {base g : Nat} {x : Bx} {ao : Option Addr} {n k : Nat} (h : VarL w base g x (.slice ao n k)) : AnyBox w base g := ⟨_, _, _, _, _, _, _, _, _, _, _, _, _, _, _, _, h⟩
theorem below_grown {u W : World} {g : Nat} (h : Below u.heap.size u W) : u.grownBy W (some g) := ⟨h.os, h.tape, h.output, h.size, fun j hj _ => h.block j hj⟩
theorem taken_cases (bad short : Bool) : (bad = false ∧ short = false) ∨ (STake.takeD bad short ≠ 0 ∧ ¬ (bad = false ∧ short = false)) := by
  cases bad <;> cases short <;> simp [STake.takeD]
set_option maxRecDepth 100000 in
set_option maxHeartbeats 4000000 in
theorem iTakeBkT (u : World) (z : Bx) (base g : Nat) (a i q way : Int) (sm : Small z.b) (V : Var u base g z) (O : Ow u (base + 4) z) (hg : g < base + 4) :
    Calls Tryz.prog 133 #[.pointer (some ⟨g, 0, none⟩), .int .i64 a, .int .i64 i, .int .i64 q, .int .i64 way] u fun e u' => ∃ (b2 : Bk) (k2 c2 : Int), IsTake z.b a i q way b2 k2 c2 ∧ e = .returned (.tuple #[.int .i64 k2, .int .i64 c2]) ∧ ((c2 = 0 ∧ ∃ (y : Bx) (v : Value), y.b = b2 ∧ VarL u' base g y v ∧ OwL u' (base + 4) y v ∧ y.gt = z.gt ∧ y.ct = z.ct) ∨ (c2 ≠ 0 ∧ AnyBox u' base g)) ∧ u.grownBy u' (some g) := by
  obtain ⟨bad, hbad⟩ := says_of (¬ STake.TakeOk z.b.ls q way)
  obtain ⟨short, hshort⟩ := says_of (Takes.sumQ (Lots.ownL z.b.ls a i) < q)
  have HB := hide hbad
  have HS := hide hshort
  have S0 := hide (DW.start V O sm)
  have d3 := Box.c3 V
  have nl := sm.2.2.2.1
  have hgu := Box.lt V
  have hc := (own_cap O.ol).1
  clear hbad hshort V O sm
  go_enter Tryz.func133, Tryz.ntmps133
  go_wp2_with fail
  refine (ITake.iTake u z.gl _ z.cl z.b.ls (takenL z.b a i q way) a i q way bad short rfl nl hc (unhide S0).r.ll (unhide S0).r.rl (unhide HB) (unhide HS) (fun _ _ => rfl)).mono ?_
  rintro e w2 ⟨v, rfl, ov, bb⟩
  have S2 := hide ((unhide S0).step bb)
  have OV := hide ov
  have f3 := (unhide S2).v.free 3
  have e3 := (unhide S2).v.c3
  have sz := bb.size
  clear bb ov d3
  rcases taken_cases bad short with ⟨rfl, rfl⟩ | ⟨hne, hno⟩
  · have CT := hide (show CanTake z.b a i q way from by
      have hb := Classical.byContradiction (unhide HB).no
      exact ⟨hb.1, hb.2.1, hb.2.2, (unhide HS).no⟩)
    rw [show STake.takeK (Takes.takeC way (Lots.ownL z.b.ls a i) q) false false = Takes.takeC way (Lots.ownL z.b.ls a i) q from rfl, show STake.takeD false false = 0 from rfl]
    rw [show STake.takeA z.b.ls (takenL z.b a i q way) false false = takenL z.b a i q way from rfl] at OV
    have BL := hide (show ∀ g', v.ownBlock = some g' → u.heap.size ≤ g' from fun g' h => ((unhide OV).lt g' h).1)
    obtain ⟨ao, n, k, rfl⟩ : ∃ ao n k, v = .slice ao n k := by
      rcases (unhide OV).cases with ⟨rfl, _⟩ | ⟨g', c', rfl, _⟩
      · exact ⟨_, _, _, rfl⟩
      · exact ⟨_, _, _, rfl⟩
    go_wp2
    go_ret2
    have lo := (ow_lo (unhide S2).o)
    have O3 := (unhide S2).o
    have G := (Box.set3 (unhide S2).v (.slice ao n k)).2
    refine ⟨{ z.b with ls := takenL z.b a i q way }, Takes.takeC way (Lots.ownL z.b.ls a i) q, 0, .inl ⟨unhide CT, rfl, rfl, rfl⟩, rfl, .inl ⟨rfl, { z with b := { z.b with ls := takenL z.b a i q way } }, .slice ao n k, rfl, (Box.set3 (unhide S2).v _).1, ?_, rfl, rfl⟩, Pairs.grown_trans (unhide S2).grown G⟩
    have hne : ∀ g', g ≤ g' → g' ≤ g → False → False := fun _ _ _ h => h
    refine ⟨O3.oa.kept G ?_, O3.oi.kept G ?_, O3.ob.kept G ?_, ?_, O3.ot.kept G ?_⟩
    · unfold Lo at lo; simp; omega
    · unfold Lo at lo; simp; omega
    · unfold Lo at lo; simp; omega
    · refine ((unhide OV).rebase ?_).kept G ?_
      · have := O3.oa.lt; have := (unhide S0).o.oa.lt; omega
      · intro g' h e
        have := (unhide BL) g' h
        cases e
        omega
    · unfold Lo at lo; simp; omega
  · have CT := hide (show ¬ CanTake z.b a i q way from fun h => hno ⟨(unhide HB).not (fun r => r ⟨h.1, h.2.1, h.2.2.1⟩), (unhide HS).not h.2.2.2⟩)
    obtain ⟨c, hc'⟩ : ∃ c, Hid (STake.takeD bad short = c) := ⟨_, rfl⟩
    have cb : (c != 0) = true := by rw [← unhide hc']; simpa using hne
    rw [unhide hc']
    clear hne hno
    go_wp2
    go_ret2
    exact ⟨z.b, 0, 5, .inr ⟨unhide CT, rfl, rfl, rfl⟩, rfl, .inr ⟨by omega, Var.any (unhide S2).v⟩, (unhide S2).grown⟩
end Go.Proofs.YtpdgljjndgikoaaGreat.ITakeBk
namespace Go.Proofs.YtpdgljjndgikoaaGreat.IOpenBk
open Go.ChangeShapes Go.WideShapes Go.ChangeAt Go.RowKit BMem Bks ILists BHelp Ans ICopied ICmdB IHave SBk ITakeBk
open IBalsFit (one_more all_one)
open Lots (Says says_of NoOk)
open Bals (T3)
open Tup5 (T5)
open Concat5 (OwnV)
open ILotsFit (below_of_drew)
set_option maxRecDepth 100000 in
set_option maxHeartbeats 4000000 in
theorem iOpenBkT (u : World) (z : Bx) (v : Value) (base g : Nat) (a i q cost : Int) (hlot : 0 ≤ z.b.lot ∧ z.b.lot ≤ 1000000000) (nl : z.b.ls.length ≤ 1048576) (V : VarL u base g z v) (O : OwL u (base + 4) z v) (hg : g < base + 4) :
    Calls Tryz.prog 134 #[.pointer (some ⟨g, 0, none⟩), .int .i64 a, .int .i64 i, .int .i64 q, .int .i64 cost] u fun e u' => ∃ (b' : Bk) (c : Int), IsOpen z.b a i q cost b' c ∧ e = .returned (.int .i64 c) ∧ ((c = 0 ∧ ∃ y : Bx, y.b = b' ∧ Var u' base g y ∧ Ow u' (base + 4) y ∧ y.gt = z.gt ∧ y.ct = z.ct) ∨ (c ≠ 0 ∧ AnyBox u' base g)) ∧ u.grownBy u' (some g) := by
  obtain ⟨ao, n, k, rfl⟩ : ∃ ao n k, v = .slice ao n k := by
    rcases O.ol.cases with ⟨rfl, _⟩ | ⟨g', c', rfl, _⟩
    · exact ⟨_, _, _, rfl⟩
    · exact ⟨_, _, _, rfl⟩
  obtain ⟨ok, hok⟩ := says_of (Lots.Right z.b.ls)
  obtain ⟨okl, hkl⟩ := says_of (Lots.One (opened z.b a i q cost))
  obtain ⟨okn, hkn⟩ := says_of (Lots.Right (Lots.mergeL (z.b.ls.length + 1) z.b.ls [opened z.b a i q cost]))
  have HO := hide hok
  have HL := hide hkl
  have HN := hide hkn
  have V0 := hide V
  have O0 := hide O
  have d3 := Box.c3 V
  have d5 := Box.c5 V
  have hgu := Box.lt V
  obtain ⟨l0, l1⟩ := hlot
  clear hok hkl hkn V O
  by_cases full : z.b.lot = 1000000000
  · have fb : (z.b.lot == 1000000000) = true := by simp [full]
    have HF := hide full
    clear full
    go_enter Tryz.func134, Tryz.ntmps134
    go_wp2
    go_ret
    exact ⟨z.b, 7, .inr ⟨fun h => h.1 (unhide HF), rfl, rfl⟩, rfl, .inr ⟨by omega, VarL.any (unhide V0)⟩, below_grown (Below.refl _ _)⟩
  have fb : (z.b.lot == 1000000000) = false := by simpa using full
  have HF := hide full
  clear full
  go_enter Tryz.func134, Tryz.ntmps134
  go_wp2_with fail
  have K4 := And.intro d3 d5
  have HW : IntKind.i64.wrap (z.b.lot + 1) = z.b.lot + 1 := by rw [IntKind.wrap_i64]; omega
  go_region_held3 (fun w' => w'.cell? ⟨g, 3, none⟩ = some (.slice ao n k) ∧ w'.cell? ⟨g, 5, none⟩ = some (.int .i64 z.b.lot)) (first | exact K4 | exact K5)
    (first | (go_at_call 159; refine (Open0.openV u.drew (base + 4) (.slice ao n k) z.b.ls _ a i (z.b.lot + 1) q cost ok okl okn (hide rfl) nl (unhide O0).ol (unhide HO) (unhide HL) (unhide HN)).mono ?_; rintro e w2 ⟨g2, c2, rfl, o2, bb⟩; have bW : Below u.heap.size u w2 := below_of_drew bb; have V2 := hide (Box.below (unhide V0) bW hgu.2); have K5 := And.intro (Box.c3 (unhide V2)) (Box.c5 (unhide V2)); have BW := hide bW; have O2 := hide (show Tup5.Own5 102 w2 u.heap.size g2 _ c2 _ from o2); clear o2 bb bW))
  clear K4 K5 d3 d5
  have e3 := Box.c3 (unhide V2)
  have e5 := Box.c5 (unhide V2)
  have f3 := Box.free (unhide V2) 3
  have f5 := Box.free (unhide V2) 5
  rcases open_cases ok okl okn with ⟨rfl, rfl, rfl⟩ | ⟨hne, hno⟩
  · obtain ⟨R, hR⟩ : ∃ R, Hid (Lots.mergeL (z.b.ls.length + 1) z.b.ls [opened z.b a i q cost] = R) := ⟨_, rfl⟩
    have O2 := hide (show Tup5.Own5 102 w2 u.heap.size g2 R.length c2 R from by rw [← unhide hR]; exact unhide O2)
    have IS := hide (show IsOpen z.b a i q cost (withL z g2 c2 R (z.b.lot + 1)).b 0 from .inl ⟨⟨unhide HF, (unhide HO).yes, (unhide HL).yes, (unhide HN).yes⟩, by rw [← unhide hR], rfl⟩)
    rw [show (SOpen.openA z.b.ls (Lots.mergeL (z.b.ls.length + 1) z.b.ls [(a, i, z.b.lot + 1, q, cost)]) true true true).length = R.length from by rw [← unhide hR]; rfl, show SOpen.openC true true true = 0 from rfl]
    go_wp2
    go_ret
    have OL := (unhide O0).below (unhide BW) (Nat.le_refl _)
    have la := OL.oa.lt
    have li := OL.oi.lt
    have lb := OL.ob.lt
    have lt := OL.ot.lt
    have l2 := (unhide O2).lt
    have l0 := (unhide O0).oa.lt
    have OY : Ow w2 (base + 4) (withL z g2 c2 R (z.b.lot + 1)) := ⟨OL.oa, OL.oi, OL.ob, (unhide O2).rebase (by omega), OL.ot⟩
    have F : Off (withL z g2 c2 R (z.b.lot + 1)) g := by
      unfold Off withL
      simp
      omega
    refine ⟨(withL z g2 c2 R (z.b.lot + 1)).b, 0, unhide IS, rfl, .inl ⟨rfl, withL z g2 c2 R (z.b.lot + 1), rfl, (Box.set5 (Box.set3 (unhide V2) _).1 _).1, ow_set (ow_set OY F 3 _) F 5 _, rfl, rfl⟩, Pairs.grown_trans (below_grown (unhide BW)) (Pairs.grown_trans (Box.set3 (unhide V2) _).2 (Box.set5 (Box.set3 (unhide V2) _).1 _).2)⟩
  · have IS := hide (show IsOpen z.b a i q cost z.b 7 from .inr ⟨fun h => hno ⟨(unhide HO).of h.2.1, (unhide HL).of h.2.2.1, (unhide HN).of h.2.2.2⟩, rfl, rfl⟩)
    obtain ⟨c, hc⟩ : ∃ c, Hid (SOpen.openC ok okl okn = c) := ⟨_, rfl⟩
    have cb : (c != 0) = true := by rw [← unhide hc]; simpa using hne
    rw [unhide hc]
    clear hne hno
    go_wp2
    go_ret
    exact ⟨z.b, 7, unhide IS, rfl, .inr ⟨by omega, VarL.any (unhide V2)⟩, below_grown (unhide BW)⟩
end Go.Proofs.YtpdgljjndgikoaaGreat.IOpenBk
namespace Go.Proofs.YtpdgljjndgikoaaGreat.Concat3
open Go.ChangeShapes Go.WideShapes Go.ChangeAt Go.RowKit Triples
open Bals (T3)
open LegApp (info2)
def OwnV (e : TypeId) (w : World) (base : Nat) (v : Value) (ps : List T3) : Prop := w.ownsRow base e 3 v ps.length (flat3 ps)
theorem OwnV.cases {e : TypeId} {w : World} {base : Nat} {v : Value} {ps : List T3} (h : OwnV e w base v ps) : (v = .slice none 0 0 ∧ ps = []) ∨ ∃ g c, v = .slice (some ⟨g, 0, none⟩) ps.length c ∧ Own3 e w base g ps.length c ps := by
  rcases h.2 with ⟨h1, h2⟩ | ⟨g, c, cur, h1, h2⟩
  · exact .inl ⟨h1, List.eq_nil_of_length_eq_zero h2⟩
  · refine .inr ⟨g, c, h1, ?_⟩
    have h' : w.ownsRow base e 3 v ps.length (flat3 ps) := h
    rw [h1] at h'
    exact h'
theorem OwnV.of {e : TypeId} {w : World} {base g n c : Nat} {ps : List T3} (h : Own3 e w base g n c ps) : OwnV e w base (.slice (some ⟨g, 0, none⟩) n c) ps := by
  unfold OwnV
  rw [h.len]
  exact h
theorem OwnV.nil (e : TypeId) (w : World) (base : Nat) : OwnV e w base (.slice none 0 0) [] := ⟨rfl, .inl ⟨rfl, rfl⟩⟩
theorem OwnV.lt {e : TypeId} {w : World} {base : Nat} {v : Value} {ps : List T3} (h : OwnV e w base v ps) : ∀ g, v.ownBlock = some g → base ≤ g ∧ g < w.heap.size := fun g hg => World.ownsRow.lt h g hg
theorem OwnV.below {e : TypeId} {w w' : World} {base B : Nat} {v : Value} {ps : List T3} (h : OwnV e w base v ps) (k : Below B w w') (hB : ∀ g, v.ownBlock = some g → g < B) : OwnV e w' base v ps := by
  rcases h.cases with ⟨rfl, rfl⟩ | ⟨g, c, rfl, o⟩
  · exact OwnV.nil _ _ _
  · exact OwnV.of (o.below k (hB g rfl))
theorem OwnV.kept {e : TypeId} {w w' : World} {base : Nat} {row : Option Nat} {v : Value} {ps : List T3} (h : OwnV e w base v ps) (k : w.grownBy w' row) (hne : ∀ g, v.ownBlock = some g → row ≠ some g) : OwnV e w' base v ps := by
  rcases h.cases with ⟨rfl, rfl⟩ | ⟨g, c, rfl, o⟩
  · exact OwnV.nil _ _ _
  · exact OwnV.of (o.kept k (fun e => hne g rfl e.symm))
theorem OwnV.rebase {e : TypeId} {w : World} {base base' : Nat} {v : Value} {ps : List T3} (h : OwnV e w base v ps) (hb : base' ≤ base) : OwnV e w base' v ps := by
  rcases h.cases with ⟨rfl, rfl⟩ | ⟨g, c, rfl, o⟩
  · exact OwnV.nil _ _ _
  · exact OwnV.of (o.rebase (Nat.le_trans hb o.lt.1))
theorem wp_catV (u : World) {ops : Array Oper} {rest : List Oper} {o : Oper} {a : Act} {Q : Exit → Act → World → Prop} (hgd : o.guard = none) (s x : Operand)
    (ho : o.op = .call { callee := .builtin .append, args := #[s, x], argTypes := #[82, 82] }) (base m : Nat) (v : Value) (ps qs : List T3) (vb c : Nat)
    (hs : a.eval s = v) (hx : a.eval x = .slice (some ⟨vb, 0, none⟩) m c) (hown : OwnV 144 u base v ps) (hl : qs.length = m) (hv : At3 u vb qs) (hn : ps.length + m ≤ 1048576) (hb : base ≤ u.heap.size)
    (h : ∀ v' w', OwnV 144 w' base v' (ps ++ qs) → u.grownBy w' v.ownBlock → (v'.ownBlock = v.ownBlock ∨ v'.ownBlock = some u.heap.size) → wpList Tryz.prog ops Q rest (a.put o.dst v') w') : wpList Tryz.prog ops Q (o :: rest) a u := by
  obtain ⟨i0, hi, hz0, hz1, hz2⟩ := info_parts info2
  refine wpList_append_own_at u hgd s x 82 ho base 144 i0 (.agg #[.int .i64 0, .int .i64 0, .int .i64 0]) 3 24 Tryz.underlying82 hi hz0 hz1 hz2 rfl (by decide) v ps.length _ hs hown ⟨vb, 0, none⟩ m c (flat3 qs) hx (by rw [flat3_len, hl]) hv.cells (fun u hu => flat3_one u _ hu) (by unfold maxLen; omega) (by omega) hb ?_
  intro v' w' own' gr' nil' loc'
  refine h v' w' ?_ gr' loc'
  unfold OwnV
  rw [flat3_append, List.length_append, hl]
  exact own'
set_option maxRecDepth 100000 in
theorem grow_some (w : World) (k : Nat) (h0 : 0 < k) (h20 : k ≤ 1048576) : Calls Tryz.prog 169 #[.slice none 0 0, .int .i64 k] w fun e w' => ∃ v, e = .returned v ∧ OwnV 144 w' w.heap.size v [] ∧ Below w.heap.size w w' := by
  obtain ⟨i0, hi, hz0, hz1, hz2⟩ := info_parts info2
  have kp : (0 : Int) < (k : Int) := by omega
  have hold : (Builtin.firstCells i0.size 0 (.slice none 0 0)).run Tryz.prog w.drew = .ok ([] : List Value).toArray w.drew := run_firstCells_none _ _ _ _ _
  obtain ⟨G, hG⟩ : ∃ G, G = grownCap w k 0 144 := ⟨_, rfl⟩
  have hG1 : k ≤ G := by rw [hG]; exact grownCap_ge w _ _ _
  have hG2 : G ≤ maxLen := by rw [hG]; exact grownCap_le_maxLen w _ _ _ (by unfold maxLen; omega)
  obtain ⟨ROW, hROW⟩ : ∃ ROW : Array Value, ROW = ([] : List Value).toArray ++ Builtin.zeroCells (Value.agg #[.int .i64 0, .int .i64 0, .int .i64 0]).cells k ++ Builtin.zeroCells (Value.agg #[.int .i64 0, .int .i64 0, .int .i64 0]).cells (G - k) := ⟨_, rfl⟩
  have hrz : ∀ ty, (Builtin.append_ #[82, 3] ty #[.slice none 0 0, .int .i64 (k : Int)]).run Tryz.prog w = .ok (.slice (some ⟨w.heap.size, 0, none⟩) k G) (w.drew.alloc (.cells ROW 144)) := fun ty => by
    have h := Lib.run_append_grow_zeros w 82 3 ty 144 i0 _ .i64 .i64 Tryz.underlying82 Tryz.underlying3 hi hz0 none 0 0 [] hold k h0 (by rw [hz1]; decide) (by omega) (by omega) (by rw [hz2]; omega) (by rw [hz2]; exact growslice_fits (by omega) (by omega))
    rw [Nat.zero_add, ← hG, ← hROW] at h
    exact h
  have hRs : ROW.size = G * 3 := by
    rw [hROW]
    simp [Builtin.zeroCells, Value.cells]
    omega
  have OV := hide (show OwnV 144 (w.drew.alloc (.cells ROW 144)) w.heap.size (.slice (some ⟨w.heap.size, 0, none⟩) 0 G) [] from ⟨rfl, .inr ⟨w.heap.size, G, ROW, rfl, Nat.le_refl _, heap_alloc_new w.drew _, Nat.zero_le _, hG2, hRs, by simp [flat3]⟩⟩)
  have BB := hide (show Below w.heap.size w (w.drew.alloc (.cells ROW 144)) from (Below.refl _ _).drew.alloc (Nat.le_refl _) _)
  have G63 : (G : Int) ≤ 9223372036854775807 := by unfold maxLen at hG2; omega
  clear hold hROW hRs hG hi hz0 hz1 hz2
  go_enter Tryz.func169, Tryz.ntmps169
  go_wp2_with (first | (at_builtin; refine Lib.wpList_append_run _ rfl _ _ _ _ rfl _ _ rfl rfl _ _ (hrz _) ?_) | go_in)
  go_ret
  exact ⟨_, rfl, unhide OV, unhide BB⟩
set_option maxRecDepth 100000 in
set_option maxHeartbeats 4000000 in
theorem iConcat (w : World) (b g1 n1 c1 g2 n2 c2 : Nat) (p1 p2 : List T3) (l1 : p1.length = n1) (l2 : p2.length = n2) (h20 : n1 + n2 ≤ 1048576) (h0 : 0 < n1 + n2)
    (hb : b < w.heap.size) (q1 : g1 < w.heap.size) (q2 : g2 < w.heap.size) (a1 : At3 w g1 p1) (a2 : At3 w g2 p2)
    (s1 : w.cell? ⟨b, 0, none⟩ = some (.slice (some ⟨g1, 0, none⟩) n1 c1)) (s2 : w.cell? ⟨b, 1, none⟩ = some (.slice (some ⟨g2, 0, none⟩) n2 c2)) :
    Calls Tryz.prog 156 #[.slice (some ⟨b, 0, none⟩) 2 2] w fun e w' => ∃ g c, e = .returned (.slice (some ⟨g, 0, none⟩) (p1 ++ p2).length c) ∧ Own3 144 w' w.heap.size g (p1 ++ p2).length c (p1 ++ p2) ∧ Below w.heap.size w w' := by
  have A1 := hide a1
  have A2 := hide a2
  clear a1 a2
  go_enter Tryz.func156, Tryz.ntmps156
  go_wp2
  go_loop [3, 5, 11] (fun q _ j => ∃ (k : Nat) (z : Int), j = .int .i64 k ∧ q = .int .i64 z ∧ ((k = 0 ∧ z = 0) ∨ (k = 1 ∧ z = (n1 : Int)) ∨ (k = 2 ∧ z = (n1 : Int) + (n2 : Int)))) (fun _ _ j => 2 - (intOf j).toNat)
  case atStart => exact ⟨0, 0, rfl, rfl, .inl ⟨rfl, rfl⟩⟩
  case round =>
    obtain ⟨k, z, rfl, rfl, hk⟩ := hrel
    rcases hk with ⟨rfl, rfl⟩ | ⟨rfl, rfl⟩ | ⟨rfl, rfl⟩
    · go_wp2
      go_round
      case rel => exact ⟨1, (n1 : Int), by go_num, by go_num, .inr (.inl ⟨rfl, rfl⟩)⟩
      case measure => simp [intOf]
    · go_wp2
      go_round
      case rel => exact ⟨2, (n1 : Int) + (n2 : Int), by go_num, by go_num, .inr (.inr ⟨rfl, rfl⟩)⟩
      case measure => simp [intOf]
    · have GR := hide (show Calls Tryz.prog 169 #[.slice none 0 0, .int .i64 ((n1 : Int) + (n2 : Int))] w fun e w' => ∃ v, e = .returned v ∧ OwnV 144 w' w.heap.size v [] ∧ Below w.heap.size w w' from by
        have := grow_some w (n1 + n2) h0 h20
        rw [show ((n1 + n2 : Nat) : Int) = (n1 : Int) + (n2 : Int) by omega] at this
        exact this)
      go_wp2_with fail
      refine (unhide GR).mono ?_
      rintro e w1 ⟨v, rfl, ov, b1⟩
      have OV := hide ov
      have B1 := hide b1
      clear ov b1 GR
      go_wp2
      go_loopw [6, 8, 27] (fun x _ j wr => ∃ (k : Nat) (v : Value) (out : List T3), j = .int .i64 k ∧ v = x ∧ Hid (OwnV 144 wr w.heap.size v out) ∧ Hid (Below w.heap.size w wr) ∧ ((k = 0 ∧ out = []) ∨ (k = 1 ∧ p1 = out) ∨ (k = 2 ∧ out = p1 ++ p2))) (fun _ _ j _ => 2 - (intOf j).toNat)
      case atStart => exact ⟨0, v, [], rfl, rfl, OV, B1, .inl ⟨rfl, rfl⟩⟩
      case round =>
      clear OV B1
      obtain ⟨k, v, out, rfl, rfl, OV, HB, hk⟩ := hrel
      rcases hk with ⟨rfl, rfl⟩ | ⟨rfl, rfl⟩ | ⟨rfl, rfl⟩
      · have s : wr.cell? ⟨b, 0, none⟩ = some (.slice (some ⟨g1, 0, none⟩) n1 c1) := ((unhide HB).cell (p := ⟨b, 0, none⟩) hb).trans s1
        have A := hide ((unhide A1).below (unhide HB) q1)
        have bs := (unhide HB).size
        have LN := hide (show ([] : List T3).length + n1 ≤ 1048576 from by (try simp); omega)
        go_wp2_with (first | (at_builtin; refine wp_catV _ rfl _ _ rfl w.heap.size n1 v ([] : List T3) p1 g1 c1 rfl rfl (unhide OV) l1 (unhide A) (unhide LN) bs ?_) | go_in)
        intro v5 w5 ov5 gr5 loc5
        have O5 := hide (show OwnV 144 w5 w.heap.size v5 (p1) from by have := ov5; exact this)
        have B5 := hide ((unhide HB).grown gr5 bs (fun j hj => ((unhide OV).lt j hj).1))
        clear ov5 gr5 loc5 A s
        go_wp2
        go_roundw
        case rel => exact ⟨1, v5, p1, by go_num, rfl, O5, B5, .inr (.inl ⟨rfl, rfl⟩)⟩
        case measure => simp [intOf]
      · have s : wr.cell? ⟨b, 1, none⟩ = some (.slice (some ⟨g2, 0, none⟩) n2 c2) := ((unhide HB).cell (p := ⟨b, 1, none⟩) hb).trans s2
        have A := hide ((unhide A2).below (unhide HB) q2)
        have bs := (unhide HB).size
        have LN := hide (show (p1).length + n2 ≤ 1048576 from by (try simp); omega)
        go_wp2_with (first | (at_builtin; refine wp_catV _ rfl _ _ rfl w.heap.size n2 v (p1) p2 g2 c2 rfl rfl (unhide OV) l2 (unhide A) (unhide LN) bs ?_) | go_in)
        intro v5 w5 ov5 gr5 loc5
        have O5 := hide (show OwnV 144 w5 w.heap.size v5 (p1 ++ p2) from by have := ov5; exact this)
        have B5 := hide ((unhide HB).grown gr5 bs (fun j hj => ((unhide OV).lt j hj).1))
        clear ov5 gr5 loc5 A s
        go_wp2
        go_roundw
        case rel => exact ⟨2, v5, p1 ++ p2, by go_num, rfl, O5, B5, .inr (.inr ⟨rfl, rfl⟩)⟩
        case measure => simp [intOf]
      · rcases (unhide OV).cases with ⟨_, e⟩ | ⟨g, c, e, o⟩
        · have h2 : (p1 ++ p2).length = 0 := by rw [e]; rfl
          rw [List.length_append] at h2
          omega
        · subst e
          have O := hide o
          clear o
          go_wp2
          go_ret
          exact ⟨g, c, rfl, unhide O, unhide HB⟩
end Go.Proofs.YtpdgljjndgikoaaGreat.Concat3
namespace Go.Proofs.YtpdgljjndgikoaaGreat.ISet
open Go.ChangeShapes Go.WideShapes Go.ChangeAt Go.RowKit BMem Bks ILists BHelp Ans ICopied ICmdB IHave SBk ITakeBk ICmdW Trd
open SCarry (took_lot)
open SIssue (posted_small posted_lot ne_true eq_false)
open IBalsFit (one_more all_one)
open ITrade (at_new)
open Lots (Says says_of NoOk)
open Bals (T3)
open Tup8 (T8 el8)
open Triples (Own3 At3)
open SLegs (Six8)
open SCarryP (legs_formed legs_even)
open TBox (withS ow_state state_grown)
def SetP (b : Bk) (t : T8) (way : Int) (b' : Bk) (gain c : Int) : Prop :=
  ∃ b1 c1, IsPosted b (legsT t) b1 c1 ∧ ((c1 ≠ 0 ∧ c = c1) ∨ (c1 = 0 ∧ ∃ b2 k2 c2, IsTake b1 t.2.2.1 t.2.2.2.1 t.2.2.2.2.1 way b2 k2 c2 ∧ ((c2 ≠ 0 ∧ c = c2) ∨ (c2 = 0 ∧ IsOpen b2 t.2.1 t.2.2.2.1 t.2.2.2.2.1 t.2.2.2.2.2.2.1 b' c ∧ gain = IntKind.i64.wrap (t.2.2.2.2.2.2.1 - k2)))))
theorem take_ts {b b' : Bk} {a i q way k c : Int} (h : IsTake b a i q way b' k c) : b'.ts = b.ts := by
  rcases h with ⟨_, rfl, _⟩ | ⟨_, rfl, _⟩ <;> rfl
theorem open_ts {b b' : Bk} {a i q k c : Int} (h : IsOpen b a i q k b' c) : b'.ts = b.ts := by
  rcases h with ⟨_, rfl, _⟩ | ⟨_, rfl, _⟩ <;> rfl
theorem SetP.ts {b b' : Bk} {t : T8} {way gain : Int} (h : SetP b t way b' gain 0) : b'.ts = b.ts := by
  obtain ⟨b1, c1, hp, ⟨h1, h2⟩ | ⟨rfl, b2, k2, c2, ht, ⟨h1, h2⟩ | ⟨rfl, ho, _⟩⟩⟩ := h
  · exact absurd h2.symm h1
  · exact absurd h2.symm h1
  · exact (open_ts ho).trans ((take_ts ht).trans (SSettle.posted_ts hp))
theorem SetP.done {b b' : Bk} {no way gain : Int} {k : Nat} (h : SetP b (el8 b.ts k) way b' gain 0) (hk : IsAt b.ts no k) (hs : (el8 b.ts k).2.2.2.2.2.2.2 = 1) : IsSettle b no way { b' with ts := setState b'.ts k 2 } gain 0 := by
  obtain ⟨b1, c1, hp, ⟨h1, h2⟩ | ⟨rfl, b2, k2, c2, ht, ⟨h1, h2⟩ | ⟨rfl, ho, hg⟩⟩⟩ := h
  · exact absurd h2.symm h1
  · exact absurd h2.symm h1
  · exact .inr ⟨k, hk, .inr ⟨hs, b1, 0, hp, .inr ⟨rfl, b2, k2, 0, ht, .inr ⟨rfl, b', 0, ho, .inr ⟨rfl, rfl, hg, rfl⟩⟩⟩⟩⟩
theorem SetP.not {b b' : Bk} {no way gain c : Int} {k : Nat} (h : SetP b (el8 b.ts k) way b' gain c) (hc : c ≠ 0) (hk : IsAt b.ts no k) (hs : (el8 b.ts k).2.2.2.2.2.2.2 = 1) : IsSettle b no way b 0 c := by
  obtain ⟨b1, c1, hp, ⟨h1, h2⟩ | ⟨rfl, b2, k2, c2, ht, ⟨h1, h2⟩ | ⟨rfl, ho, hg⟩⟩⟩ := h
  · exact .inr ⟨k, hk, .inr ⟨hs, b1, c1, hp, .inl ⟨h1, rfl, rfl, h2⟩⟩⟩
  · exact .inr ⟨k, hk, .inr ⟨hs, b1, 0, hp, .inr ⟨rfl, b2, k2, c2, ht, .inl ⟨h1, rfl, rfl, h2⟩⟩⟩⟩
  · exact .inr ⟨k, hk, .inr ⟨hs, b1, 0, hp, .inr ⟨rfl, b2, k2, 0, ht, .inr ⟨rfl, b', c, ho, .inl ⟨hc, rfl, rfl, rfl⟩⟩⟩⟩⟩
set_option maxRecDepth 100000 in
theorem iGivenO (w : World) (a c i q : Int) (q1 : 0 ≤ q) (q2 : q ≤ 1000000000000000) :
    Calls Tryz.prog 157 #[.int .i64 a, .int .i64 c, .int .i64 i, .int .i64 q] w fun e w' => ∃ g, e = .returned (.slice (some ⟨g, 0, none⟩) 2 2) ∧ Own3 144 w' w.heap.size g 2 2 (pairL a c i q) ∧ Below w.heap.size w w' := by
  have A := hide (SLegs.own_pair w a c i q)
  go_enter Tryz.func157, Tryz.ntmps157
  go_wp2
  go_ret
  exact ⟨w.heap.size, rfl, unhide A, (Below.refl _ _).alloc (Nat.le_refl _) _⟩
theorem six_grown {w w' : World} {g g0 : Nat} {b s p q c r : Int} (h : Six8 w g b s p q c r) (k : w.grownBy w' (some g0)) (hn : g ≠ g0) : Six8 w' g b s p q c r := by
  have n : some g ≠ some g0 := fun e => by injection e; omega
  exact ⟨k.cell h.1 n, k.cell h.2.1 n, k.cell h.2.2.1 n, k.cell h.2.2.2.1 n, k.cell h.2.2.2.2.1 n, k.cell h.2.2.2.2.2 n⟩
set_option maxRecDepth 100000 in
set_option maxHeartbeats 8000000 in
theorem iLegs (u : World) (n b s p q c r st : Int) (q1 : 0 ≤ q) (q2 : q ≤ 1000000000000000) (r1 : 0 ≤ r) (r2 : r ≤ 1000000000000000) :
    Calls Tryz.prog 132 #[.agg #[.int .i64 n, .int .i64 b, .int .i64 s, .int .i64 p, .int .i64 q, .int .i64 c, .int .i64 r, .int .i64 st]] u fun e u' => ∃ g3 c3, e = .returned (.slice (some ⟨g3, 0, none⟩) 4 c3) ∧ Own3 144 u' u.heap.size g3 4 c3 (pairL b s c r ++ pairL s b p q) ∧ Below u.heap.size u u' := by
  have C0 := hide (show Six8 (u.alloc (.cells #[.int .i64 n, .int .i64 b, .int .i64 s, .int .i64 p, .int .i64 q, .int .i64 c, .int .i64 r, .int .i64 st] 57)) u.heap.size b s p q c r from by simp [Six8])
  have z0 : u.heap.size < (u.alloc (.cells #[.int .i64 n, .int .i64 b, .int .i64 s, .int .i64 p, .int .i64 q, .int .i64 c, .int .i64 r, .int .i64 st] 57)).heap.size := by simp
  have B0 := hide (one_more u (.cells #[.int .i64 n, .int .i64 b, .int .i64 s, .int .i64 p, .int .i64 q, .int .i64 c, .int .i64 r, .int .i64 st] 57))
  have M1 := trivial
  go_enter Tryz.func132, Tryz.ntmps132
  go_wp2_with fail
  generalize u.alloc (.cells #[.int .i64 n, .int .i64 b, .int .i64 s, .int .i64 p, .int .i64 q, .int .i64 c, .int .i64 r, .int .i64 st] 57) = w1 at *
  have K4 := unhide C0
  unfold Six8 at K4
  go_region_held3 (fun w' => w'.cell? ⟨u.heap.size, 1, none⟩ = some (.int .i64 b) ∧ w'.cell? ⟨u.heap.size, 2, none⟩ = some (.int .i64 s) ∧ w'.cell? ⟨u.heap.size, 3, none⟩ = some (.int .i64 p) ∧ w'.cell? ⟨u.heap.size, 4, none⟩ = some (.int .i64 q) ∧ w'.cell? ⟨u.heap.size, 5, none⟩ = some (.int .i64 c) ∧ w'.cell? ⟨u.heap.size, 6, none⟩ = some (.int .i64 r)) (first | exact K4 | exact K5 | exact K6 | exact K7 | exact K8)
    (first | (go_at_call 157; clear M1; refine (iGivenO w1.drew b s c r r1 r2).mono ?_; rintro e u1 ⟨g1, rfl, o1, bb⟩; have bW := hide (show Below w1.heap.size w1 u1 from ILotsFit.below_of_drew bb); have K5 := (unhide C0).below (unhide bW) z0; unfold Six8 at K5; have O1 := hide (show Own3 144 u1 w1.heap.size g1 2 2 (pairL b s c r) from o1); have z1 := (unhide bW).size; clear bb o1) | (go_at_call 157; refine (iGivenO u1 s b p q q1 q2).mono ?_; rintro e u2 ⟨g2, rfl, o2, bb2⟩; have bX := hide ((unhide bW).trans (bb2.mono z1)); have K6 := (unhide C0).below (unhide bX) z0; unfold Six8 at K6; have K7 := (unhide C0).below ((unhide bX).alloc (unhide bX).size (.cells #[.slice (some ⟨g1, 0, none⟩) 2 2, .slice (some ⟨g2, 0, none⟩) 2 2] 82)) z0; unfold Six8 at K7; have O2 := hide o2; have O3 := hide ((unhide O1).below bb2 (unhide O1).lt.2); have z2 := bb2.size; clear bb2 o2) | (go_at_call 156; refine (Concat3.iConcat _ u2.heap.size g1 2 2 g2 2 2 (pairL b s c r) (pairL s b p q) rfl rfl (by omega) (by omega) (by simp) (by have := (unhide O3).lt.2; simp; omega) (by have := (unhide O2).lt.2; simp; omega) ((unhide O3).alloc _).at ((unhide O2).alloc _).at (by simp) (by simp)).mono ?_; rintro e u3 ⟨g3, c3, rfl, o3, bb3⟩; have bY := hide (Below.trans ((unhide bX).alloc (unhide bX).size _) (bb3.mono (by simp; omega))); have K8 := (unhide C0).below (unhide bY) z0; unfold Six8 at K8; have O4 := hide o3; have z3 := (unhide bY).size; clear bb3 o3))
  clear K4 K5 K6 K7 K8
  have B9 := hide ((unhide B0).trans ((unhide bY).mono (Nat.le_of_lt z0)))
  have O9 := hide ((unhide O4).rebase (base' := u.heap.size) (by have := (unhide O4).lt.1; simp at this; omega))
  go_wp2
  go_ret
  exact ⟨g3, c3, rfl, unhide O9, unhide B9⟩
set_option maxRecDepth 100000 in
set_option maxHeartbeats 8000000 in
theorem iSettle (u : World) (z : Bx) (base g : Nat) (n b s p q c r st way : Int) (TO : TOne (n, b, s, p, q, c, r, st)) (ok : Lists z.b) (sm : Small z.b) (V : Var u base g z) (O : Ow u (base + 4) z) (hg : g < base + 4) :
    Calls Tryz.prog 103 #[.pointer (some ⟨g, 0, none⟩), .agg #[.int .i64 n, .int .i64 b, .int .i64 s, .int .i64 p, .int .i64 q, .int .i64 c, .int .i64 r, .int .i64 st], .int .i64 way] u fun e u' => ∃ (b' : Bk) (gain c' : Int), SetP z.b (n, b, s, p, q, c, r, st) way b' gain c' ∧ e = .returned (.tuple #[.int .i64 gain, .int .i64 c']) ∧ ((c' = 0 ∧ ∃ y : Bx, y.b = b' ∧ Var u' base g y ∧ Ow u' (base + 4) y ∧ y.gt = z.gt ∧ y.ct = z.ct) ∨ (c' ≠ 0 ∧ AnyBox u' base g)) ∧ u.grownBy u' (some g) := by
  have q1 : 0 ≤ q := by have := TO.2.2.2.2.2.2.1.1; simp at this; omega
  have q2 : q ≤ 1000000000000000 := TO.2.2.2.2.2.2.1.2
  have r1 : 0 ≤ r := TO.2.2.2.2.2.2.2.1.1
  have r2 : r ≤ 1000000000000000 := TO.2.2.2.2.2.2.2.1.2
  have LF := hide (show Bals.Formed (pairL b s c r ++ pairL s b p q) from legs_formed TO)
  have LE := hide (show Bals.Even (pairL b s c r ++ pairL s b p q) from legs_even (n, b, s, p, q, c, r, st))
  have LI := hide ok
  have SM := hide sm
  have C0 := hide (show Six8 (u.alloc (.cells #[.int .i64 n, .int .i64 b, .int .i64 s, .int .i64 p, .int .i64 q, .int .i64 c, .int .i64 r, .int .i64 st] 57)) u.heap.size b s p q c r from by simp [Six8])
  have z0 : u.heap.size < (u.alloc (.cells #[.int .i64 n, .int .i64 b, .int .i64 s, .int .i64 p, .int .i64 q, .int .i64 c, .int .i64 r, .int .i64 st] 57)).heap.size := by simp
  have gl := (Box.lt V).2
  have D0 := hide ((DW.start V O sm).step (one_more u (.cells #[.int .i64 n, .int .i64 b, .int .i64 s, .int .i64 p, .int .i64 q, .int .i64 c, .int .i64 r, .int .i64 st] 57)))
  clear TO ok sm V O
  go_enter Tryz.func103, Tryz.ntmps103
  go_wp2_with fail
  refine (iLegs _ n b s p q c r st q1 q2 r1 r2).mono ?_
  rintro e u3 ⟨g3, c3, rfl, o3, bY⟩
  have C3 := hide ((unhide C0).below bY z0)
  have D3 := hide ((unhide D0).step bY)
  have O4 := hide o3
  have z3 := bY.size
  clear o3 bY
  generalize u.alloc (.cells #[.int .i64 n, .int .i64 b, .int .i64 s, .int .i64 p, .int .i64 q, .int .i64 c, .int .i64 r, .int .i64 st] 57) = w1 at *
  go_wp2_with fail
  refine (IPostB.iPostT u3 z base g g3 c3 (pairL b s c r ++ pairL s b p q) (unhide LI) (unhide SM) (unhide D3).v (unhide D3).o hg (show 4 ≤ 1048576 by omega) (unhide O4).lt.2 (unhide O4).at (unhide LF) (unhide LE)).mono ?_
  rintro e u4 ⟨y, e1, hpo, rfl, vy, oy, gr, ge, ce⟩
  have S4 := hide (six_grown (unhide C3) gr (by omega))
  have G4 := hide (Pairs.grown_trans (unhide D3).grown gr)
  have HP := hide hpo
  have VY := hide vy
  have OY := hide oy
  have GE := hide ge
  have CE := hide ce
  have sz4 := gr.size
  clear hpo vy oy gr ge ce O4 D3 D0 C3 C0
  have LL := hide (posted_lot (unhide HP))
  have lu : u.heap.size < u4.heap.size := by omega
  have gu : u.heap.size ≠ g := by omega
  by_cases z1' : e1 = 0
  rotate_left
  · have zc : (e1 != 0) = true := ne_true z1'
    have ZN := hide z1'
    clear z1'
    go_wp2
    go_ret2
    exact ⟨y.b, 0, e1, ⟨y.b, e1, unhide HP, .inl ⟨unhide ZN, rfl⟩⟩, rfl, .inr ⟨unhide ZN, Var.any (unhide VY)⟩, unhide G4⟩
  subst z1'
  have SY := hide (posted_small (unhide HP) (unhide SM))
  obtain ⟨k1, k2, k3, k4, k5, k6⟩ := unhide S4
  go_wp2_with fail
  refine (ITakeBk.iTakeBkT u4 y base g s p q way (unhide SY) (unhide VY) (unhide OY) hg).mono ?_
  rintro e u5 ⟨b2, t2, c2, ht, rfl, hy, gr⟩
  have S5 := hide (six_grown (unhide S4) gr gu)
  have G5 := hide (Pairs.grown_trans (unhide G4) gr)
  have HT := hide ht
  clear k1 k2 k3 k4 k5 k6 ht gr
  rcases hy with ⟨rfl, y2, v2, hy, vl, ol, ge, ce⟩ | ⟨hne, ab⟩
  rotate_left
  · have zc : (c2 != 0) = true := ne_true hne
    have HN := hide hne
    have AB := hide ab
    clear hne ab
    go_wp2
    go_ret2
    exact ⟨y.b, 0, c2, ⟨y.b, 0, unhide HP, .inr ⟨rfl, b2, t2, c2, unhide HT, .inl ⟨unhide HN, rfl⟩⟩⟩, rfl, .inr ⟨unhide HN, unhide AB⟩, unhide G5⟩
  have HY := hide hy
  have VL := hide vl
  have OL := hide ol
  have GE2 := hide (ge.trans (unhide GE))
  have CE2 := hide (ce.trans (unhide CE))
  have TL := hide (took_lot (unhide HT) (unhide SY))
  have LOT := hide (show 0 ≤ y2.b.lot ∧ y2.b.lot ≤ 1000000000 from by rw [unhide HY, (unhide TL).1, (unhide LL).1]; exact (unhide LI).2.2.2.2.2)
  have NL := hide (show y2.b.ls.length ≤ 1048576 from by rw [unhide HY]; exact (unhide TL).2)
  clear hy vl ol ge ce
  go_wp2_with fail
  have K4 := unhide S5
  unfold Six8 at K4
  have VL' := hide (show VarL u5.drew base g y2 v2 from unhide VL)
  have OL' := hide ((unhide OL).below (Below.refl _ _).drew (Nat.le_refl _))
  go_region_held3 (fun w' => w'.cell? ⟨u.heap.size, 1, none⟩ = some (.int .i64 b) ∧ w'.cell? ⟨u.heap.size, 2, none⟩ = some (.int .i64 s) ∧ w'.cell? ⟨u.heap.size, 3, none⟩ = some (.int .i64 p) ∧ w'.cell? ⟨u.heap.size, 4, none⟩ = some (.int .i64 q) ∧ w'.cell? ⟨u.heap.size, 5, none⟩ = some (.int .i64 c) ∧ w'.cell? ⟨u.heap.size, 6, none⟩ = some (.int .i64 r)) (first | exact K4 | exact K5)
    (first | (go_at_call 134; refine (IOpenBk.iOpenBkT u5.drew y2 v2 base g b p q r (unhide LOT) (unhide NL) (unhide VL') (unhide OL') hg).mono ?_; rintro e u6 ⟨b3, d3, ho, rfl, hz, gr⟩; have S6 := hide (six_grown (show Six8 u5.drew u.heap.size b s p q c r from unhide S5) gr gu); have K5 := unhide S6; unfold Six8 at K5; have HO := hide ho; have HZ := hide hz; have G6 := hide (Pairs.grown_trans (unhide G5) (show u5.grownBy u6 (some g) from ⟨gr.os, gr.tape, gr.output, gr.size, gr.block⟩)); clear ho hz gr))
  go_wp2
  go_ret2
  have HO2 := unhide HO
  rw [unhide HY] at HO2
  refine ⟨b3, _, d3, ⟨y.b, 0, unhide HP, .inr ⟨rfl, b2, t2, 0, unhide HT, .inr ⟨rfl, HO2, rfl⟩⟩⟩, rfl, ?_, unhide G6⟩
  rcases unhide HZ with ⟨h0, y3, e3, v3, o3, ge, ce⟩ | h
  · exact .inl ⟨h0, y3, e3, v3, o3, ge.trans (unhide GE2), ce.trans (unhide CE2)⟩
  · exact .inr h
end Go.Proofs.YtpdgljjndgikoaaGreat.ISet
namespace Go.Proofs.YtpdgljjndgikoaaGreat.IssueTellI
open Go.ChangeShapes Go.WideShapes Go.ChangeAt Go.RowKit BMem Bks ILists BHelp Ans ICopied ICmdB IHave
open SIssue (six_alloc ow_six_alloc box_six_alloc to_wb off_box)
open IBalsFit (one_more all_one)
open ITrade (at_new)
open Lots (Says says_of NoOk)
theorem says_and {a b : Bool} {p q : Prop} (h : Says a p) (k : Says b q) : Says (a && b) (p ∧ q) := by
  cases a <;> cases b
  · exact ⟨fun e => Bool.noConfusion e, fun r => absurd r.1 h.no⟩
  · exact ⟨fun e => Bool.noConfusion e, fun r => absurd r.1 h.no⟩
  · exact ⟨fun e => Bool.noConfusion e, fun r => absurd r.2 k.no⟩
  · exact ⟨fun _ => ⟨h.yes, k.yes⟩, fun _ => rfl⟩
structure TW (w W : World) (x : Bx) (fa fb fi fq fk : Int) : Prop where
  r : Rd W x
  c : Cl W w.heap.size x
  n1 : W.cell? ⟨w.heap.size + 1, 0, none⟩ = some (.int .i64 fa)
  n2 : W.cell? ⟨w.heap.size + 1 + 1, 0, none⟩ = some (.int .i64 fb)
  n3 : W.cell? ⟨w.heap.size + 1 + 1 + 1, 0, none⟩ = some (.int .i64 fi)
  n4 : W.cell? ⟨w.heap.size + 1 + 1 + 1 + 1, 0, none⟩ = some (.int .i64 fq)
  n5 : W.cell? ⟨w.heap.size + 1 + 1 + 1 + 1 + 1, 0, none⟩ = some (.int .i64 fk)
  v : Box W w.heap.size (w.heap.size + 1 + 1 + 1 + 1 + 1 + 1) (.slice none 0 0) (.slice none 0 0) (.slice none 0 0) (.slice none 0 0) (.slice none 0 0) (.int .i64 0)
  b : Below w.heap.size w W
theorem TW.step {w W W' : World} {x : Bx} {fa fb fi fq fk : Int} (h : TW w W x fa fb fi fq fk) (k : Below W.heap.size W W') : TW w W' x fa fb fi fq fk := by
  have l := h.v.lt
  exact ⟨h.r.below k, h.c.below k (by omega), (k.cell (p := ⟨w.heap.size + 1, 0, none⟩) (by simp <;> omega)).trans h.n1, (k.cell (p := ⟨w.heap.size + 1 + 1, 0, none⟩) (by simp <;> omega)).trans h.n2, (k.cell (p := ⟨w.heap.size + 1 + 1 + 1, 0, none⟩) (by simp <;> omega)).trans h.n3, (k.cell (p := ⟨w.heap.size + 1 + 1 + 1 + 1, 0, none⟩) (by simp <;> omega)).trans h.n4, (k.cell (p := ⟨w.heap.size + 1 + 1 + 1 + 1 + 1, 0, none⟩) (by simp <;> omega)).trans h.n5, h.v.below k (by omega), h.b.trans (k.mono h.b.size)⟩
theorem more {w : World} {p : Addr} {v : Value} (h : w.cell? p = some v) (hp : p.block < w.heap.size) (o : Obj) : (w.alloc o).cell? p = some v := ((one_more _ _).cell hp).trans h
theorem TW.start {w : World} {x : Bx} {fa fb fi fq fk : Int} (h : Rd w x) : TW w (((((((w.alloc (.cells #[.slice (some ⟨x.ga, 0, none⟩) x.b.ac.length x.ca, .slice (some ⟨x.gi, 0, none⟩) x.b.ic.length x.ci, .slice (some ⟨x.gb, 0, none⟩) x.b.bs.length x.cb, .slice (some ⟨x.gl, 0, none⟩) x.b.ls.length x.cl, .slice (some ⟨x.gt, 0, none⟩) x.b.ts.length x.ct, .int .i64 x.b.lot] 36)).alloc (.cells #[.int .i64 fa] 3)).alloc (.cells #[.int .i64 fb] 3)).alloc (.cells #[.int .i64 fi] 3)).alloc (.cells #[.int .i64 fq] 3)).alloc (.cells #[.int .i64 fk] 3)).alloc (.cells #[.slice none 0 0, .slice none 0 0, .slice none 0 0, .slice none 0 0, .slice none 0 0, .int .i64 0] 36)) x fa fb fi fq fk := by
  have b : Below (w.heap.size + 1) (w.alloc (.cells #[.slice (some ⟨x.ga, 0, none⟩) x.b.ac.length x.ca, .slice (some ⟨x.gi, 0, none⟩) x.b.ic.length x.ci, .slice (some ⟨x.gb, 0, none⟩) x.b.bs.length x.cb, .slice (some ⟨x.gl, 0, none⟩) x.b.ls.length x.cl, .slice (some ⟨x.gt, 0, none⟩) x.b.ts.length x.ct, .int .i64 x.b.lot] 36)) (((((((w.alloc (.cells #[.slice (some ⟨x.ga, 0, none⟩) x.b.ac.length x.ca, .slice (some ⟨x.gi, 0, none⟩) x.b.ic.length x.ci, .slice (some ⟨x.gb, 0, none⟩) x.b.bs.length x.cb, .slice (some ⟨x.gl, 0, none⟩) x.b.ls.length x.cl, .slice (some ⟨x.gt, 0, none⟩) x.b.ts.length x.ct, .int .i64 x.b.lot] 36)).alloc (.cells #[.int .i64 fa] 3)).alloc (.cells #[.int .i64 fb] 3)).alloc (.cells #[.int .i64 fi] 3)).alloc (.cells #[.int .i64 fq] 3)).alloc (.cells #[.int .i64 fk] 3)).alloc (.cells #[.slice none 0 0, .slice none 0 0, .slice none 0 0, .slice none 0 0, .slice none 0 0, .int .i64 0] 36)) :=
    ((((((Below.refl _ _).alloc (by simp) _).alloc (by simp) _).alloc (by simp <;> omega) _).alloc (by simp <;> omega) _).alloc (by simp <;> omega) _).alloc (by simp <;> omega) _
  refine ⟨h.below (((Below.refl w.heap.size w).alloc (Nat.le_refl _) _).trans (b.mono (by omega))), (boxed w x 36).below b (by omega), ?_, ?_, ?_, ?_, ?_, Box.made _ _ _ _ _ _ (by simp <;> omega) (by simp), ((Below.refl w.heap.size w).alloc (Nat.le_refl _) _).trans (b.mono (by omega))⟩
  · exact more (more (more (more (more (cell_new _ _ _ (by simp)) (by simp) _) (by simp <;> omega) _) (by simp <;> omega) _) (by simp <;> omega) _) (by simp <;> omega) _
  · exact more (more (more (more (cell_new _ _ _ (by simp)) (by simp) _) (by simp <;> omega) _) (by simp <;> omega) _) (by simp <;> omega) _
  · exact more (more (more (cell_new _ _ _ (by simp)) (by simp) _) (by simp <;> omega) _) (by simp <;> omega) _
  · exact more (more (cell_new _ _ _ (by simp)) (by simp) _) (by simp <;> omega) _
  · exact more (cell_new _ _ _ (by simp)) (by simp) _
end Go.Proofs.YtpdgljjndgikoaaGreat.IssueTellI
