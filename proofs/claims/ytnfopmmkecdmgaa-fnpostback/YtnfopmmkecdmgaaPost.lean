/- Contracts of the program's post: sums, short accounts, legs added to the table, what they come to. Conditions: legs and short accounts as the calls have them. -/
import Derived.Test.YtnfopmmkecdmgaaInts
import Derived.Test.YtnfopmmkecdmgaaLegs
import Derived.Test.YtnfopmmkecdmgaaPut
namespace Go.Proofs.Ytnfopmmkecdmgaa.Post
open Go.ChangeShapes Go.WideShapes Go.ChangeAt Go.RowKit Bals Triples Cmp SOk3 IOk3 Tab Look SPut3 Out Put Legs
set_option linter.unusedVariables false
set_option linter.unusedSimpArgs false

/-- What a sum answers, of two that are amounts. -/
def sumIn (a b : Int) (c : Bool) : Int := if c then a + b else 0

set_option maxRecDepth 100000 in
theorem sAdd (a b : Int) (c : Bool) (w : World) (ha : Amt a) (hb : Amt b) (hc : Says c (Amt (a + b))) :
    Calls Try.prog 33 #[.int .i64 a, .int .i64 b] w fun e w' => e = .returned (.tuple #[.int .i64 (sumIn a b c), .bool c]) ∧ w' = w := by
  have hs : IntKind.i64.wrap (a + b) = a + b := by unfold Amt at ha hb; rw [IntKind.wrap_i64]; omega
  have SA : Says true (Amt a) := ⟨fun _ => ha, fun _ => rfl⟩
  have SB : Says true (Amt b) := ⟨fun _ => hb, fun _ => rfl⟩
  have T := hide (show (true = true ∧ Amt (a + b) ∧ sumIn a b c = a + b ∧ c = true) ∨ (¬ (true = true ∧ Amt (a + b)) ∧ sumIn a b c = 0 ∧ c = false) from by
    cases c
    · exact .inr ⟨fun q => hc.no q.2, rfl, rfl⟩
    · exact .inl ⟨rfl, hc.yes, rfl, rfl⟩)
  clear ha hb hc
  generalize sumIn a b c = r at *
  go_enter Try.func33, Try.ntmps33
  go_wp2_with fail
  refine (sAmt a true _ SA).mono ?_
  rintro e w1 ⟨rfl, rfl⟩
  go_wp2_with fail
  refine (sAmt b true _ SB).mono ?_
  rintro e w2 ⟨rfl, rfl⟩
  go_wp2_with fail
  refine (sTold (a + b) true c r _ (by have := unhide T; simpa using this)).mono ?_
  rintro e w3 ⟨rfl, rfl⟩
  go_wp2
  go_ret2
  exact ⟨rfl, rfl⟩

set_option maxRecDepth 100000 in
theorem iAdd (a b : Int) (c : Bool) (w : World) (ha : Amt a) (hb : Amt b) (hc : Says c (Amt (a + b))) :
    Calls Try.prog 57 #[.int .i64 a, .int .i64 b] w fun e w' => e = .returned (.tuple #[.int .i64 (sumIn a b c), .bool c]) ∧ w' = w := by
  have hs : IntKind.i64.wrap (a + b) = a + b := by unfold Amt at ha hb; rw [IntKind.wrap_i64]; omega
  have SA : Says true (Amt a) := ⟨fun _ => ha, fun _ => rfl⟩
  have SB : Says true (Amt b) := ⟨fun _ => hb, fun _ => rfl⟩
  have T := hide (show (Amt (a + b) ∧ sumIn a b c = a + b ∧ c = true) ∨ (¬ Amt (a + b) ∧ sumIn a b c = 0 ∧ c = false) from by
    cases c
    · exact .inr ⟨hc.no, rfl, rfl⟩
    · exact .inl ⟨hc.yes, rfl, rfl⟩)
  clear ha hb hc
  generalize sumIn a b c = r at *
  go_enter Try.func57, Try.ntmps57
  go_wp2_with fail
  refine (iAmt a true _ SA).mono ?_
  rintro e w1 ⟨rfl, rfl⟩
  go_wp2_with fail
  refine (iAmt b true _ SB).mono ?_
  rintro e w2 ⟨rfl, rfl⟩
  go_wp2_with fail
  refine (iOnly (a + b) c r _ (unhide T)).mono ?_
  rintro e w3 ⟨rfl, rfl⟩
  go_wp2
  go_ret2
  exact ⟨rfl, rfl⟩

theorem in_iff {xs : List Int} {x : Int} : x ∈ xs ↔ ∃ i, i < xs.length ∧ xs.getD i 0 = x := by
  constructor
  · intro h
    obtain ⟨i, hi, e⟩ := List.getElem_of_mem h
    exact ⟨i, hi, by simp [List.getD, hi, e]⟩
  · rintro ⟨i, hi, e⟩
    rw [← e]
    simp only [List.getD, List.getElem?_eq_getElem hi, Option.getD_some]
    exact List.getElem_mem hi

set_option maxRecDepth 100000 in
theorem sHas (w : World) (g n cap : Nat) (xs : List Int) (x : Int) (b : Bool) (hl : xs.length = n) (h20 : n ≤ 1048576) (h : Ints.At w g xs) (hb : Says b (x ∈ xs)) :
    Calls Try.prog 36 #[.slice (some ⟨g, 0, none⟩) n cap, .int .i64 x] w fun e w' => e = .returned (.bool b) ∧ w' = w := by
  go_enter Try.func36, Try.ntmps36
  go_wp2
  go_loop [5] (fun j => ∃ (k : Nat), k ≤ n ∧ j = .int .i64 k ∧ Hid (∀ i, i < k → xs.getD i 0 ≠ x)) (fun j => n - (intOf j).toNat)
  case atStart => exact ⟨0, by omega, rfl, hide (fun i hi => by omega)⟩
  case round =>
    obtain ⟨k, hk, rfl, HG⟩ := hrel
    by_cases t : k < n
    · have e1 := h k (by omega)
      have YES := hide (show xs.getD k 0 = x → b = true from fun e => hb.of (in_iff.2 ⟨k, by omega, e⟩))
      have GO := hide (show xs.getD k 0 ≠ x → ∀ i, i < k + 1 → xs.getD i 0 ≠ x from fun hn i hi => by
        by_cases e : i = k
        · subst e; exact hn
        · exact (unhide HG) i (by omega))
      clear h
      generalize xs.getD k 0 = y at *
      by_cases c1 : y = x
      · obtain rfl : b = true := (unhide YES) c1
        clear YES GO
        subst c1
        go_wp2
        go_ret
        exact ⟨rfl, rfl⟩
      · have G := hide ((unhide GO) c1)
        have c1b : (y == x) = false := by simpa using c1
        clear YES GO
        go_wp2
        go_round
        case rel => exact ⟨k + 1, by omega, by go_num, G⟩
        case measure => simp [intOf]; omega
    · obtain rfl : k = n := by omega
      obtain rfl : b = false := hb.not (fun r => by
        obtain ⟨i, hi, e⟩ := in_iff.1 r
        exact (unhide HG) i (by omega) e)
      clear h hb
      go_wp2
      go_ret
      exact ⟨rfl, rfl⟩

set_option maxRecDepth 100000 in
theorem iIndex (w : World) (g n cap : Nat) (xs : List Int) (x : Int) (b : Bool) (hl : xs.length = n) (h20 : n ≤ 1048576) (h : Ints.At w g xs) (hb : Says b (x ∈ xs)) :
    Calls Try.prog 62 #[.slice (some ⟨g, 0, none⟩) n cap, .int .i64 x] w fun e w' => ∃ r, (b = true ↔ (0 : Int) ≤ r) ∧ e = .returned (.int .i64 r) ∧ w' = w := by
  go_enter Try.func62, Try.ntmps62
  go_wp2
  go_loop [5, 8] (fun _ j => ∃ (k : Nat), k ≤ n ∧ j = .int .i64 k ∧ Hid (∀ i, i < k → xs.getD i 0 ≠ x)) (fun _ j => n - (intOf j).toNat)
  case atStart => exact ⟨0, by omega, rfl, hide (fun i hi => by omega)⟩
  case round =>
    obtain ⟨k, hk, rfl, HG⟩ := hrel
    by_cases t : k < n
    · have e1 := h k (by omega)
      have YES := hide (show xs.getD k 0 = x → b = true from fun e => hb.of (in_iff.2 ⟨k, by omega, e⟩))
      have GO := hide (show xs.getD k 0 ≠ x → ∀ i, i < k + 1 → xs.getD i 0 ≠ x from fun hn i hi => by
        by_cases e : i = k
        · subst e; exact hn
        · exact (unhide HG) i (by omega))
      clear h
      generalize xs.getD k 0 = y at *
      by_cases c1 : y = x
      · have BT := hide ((unhide YES) c1)
        clear YES GO
        subst c1
        go_wp2
        go_ret
        exact ⟨(k : Int), ⟨fun _ => by omega, fun _ => unhide BT⟩, rfl, rfl⟩
      · have G := hide ((unhide GO) c1)
        have c1b : (x == y) = false := by simpa using (fun e => c1 (Eq.symm e))
        clear YES GO
        go_wp2
        go_round
        case rel => exact ⟨k + 1, by omega, by go_num, G⟩
        case measure => simp [intOf]; omega
    · obtain rfl : k = n := by omega
      have BF := hide (hb.not (fun r => by
        obtain ⟨i, hi, e⟩ := in_iff.1 r
        exact (unhide HG) i (by omega) e))
      clear h hb
      go_wp2
      go_ret
      exact ⟨-1, ⟨(fun e => by rw [unhide BF] at e; cases e), (fun e => by omega)⟩, rfl, rfl⟩

set_option maxRecDepth 100000 in
theorem iHas (w : World) (g n cap : Nat) (xs : List Int) (x : Int) (b : Bool) (hl : xs.length = n) (h20 : n ≤ 1048576) (h : Ints.At w g xs) (hb : Says b (x ∈ xs)) :
    Calls Try.prog 58 #[.slice (some ⟨g, 0, none⟩) n cap, .int .i64 x] w fun e w' => e = .returned (.bool b) ∧ w' = w := by
  have H := hide h
  clear h
  go_enter Try.func58, Try.ntmps58
  go_wp2_with fail
  refine (iIndex _ g n cap xs x b hl h20 (unhide H) hb).mono ?_
  rintro e w1 ⟨r, hr, rfl, rfl⟩
  cases b
  · have r0 : ¬ (0 : Int) ≤ r := fun q => by have := hr.2 q; cases this
    have rb : decide ((0 : Int) ≤ r) = false := decide_eq_false r0
    clear hr hb
    go_wp2
    go_ret
    exact ⟨by first | rfl | simp [rb], rfl⟩
  · have r0 : (0 : Int) ≤ r := hr.1 rfl
    clear hr hb
    go_wp2
    go_ret
    exact ⟨rfl, rfl⟩

theorem at3_grown {w w' : World} {g B : Nat} {ps : List T3} (h : At3 w g ps) (k : w.grownBy w' (some B)) (hg : g < w.heap.size) (hne : g ≠ B) : At3 w' g ps := by
  intro i hi
  obtain ⟨a, b, c⟩ := h i hi
  have e : w'.heap[g]? = w.heap[g]? := k.block g hg (by simp; exact hne)
  exact ⟨(World.cell?_of_block (w := w) (a := ⟨g, i * 3, none⟩) e).trans a, (World.cell?_of_block (w := w) (a := ⟨g, i * 3 + 1, none⟩) e).trans b, (World.cell?_of_block (w := w) (a := ⟨g, i * 3 + 2, none⟩) e).trans c⟩

theorem grown_drewN {w u : World} {row : Option Nat} (h : w.grownBy u row) (q : Nat) : w.grownBy (u.drewN q) row := ⟨h.os, h.tape, h.output, h.size, h.block⟩
theorem grown_of_drewN {w u : World} {row : Option Nat} {q : Nat} (h : (w.drewN q).grownBy u row) : w.grownBy u row := ⟨h.os, h.tape, h.output, h.size, h.block⟩

theorem tab_drewN {w : World} {B n : Nat} {f : Int → Int → Int} (h : Tab w B n f) (q : Nat) : Tab (w.drewN q) B n f := h

theorem look_run {w : World} {B n : Nat} {f : Int → Int → Int} (h : Tab w B n f) {a i : Int} (hw : Wf a i) : (Instr.lookup 52 (.map (some B)) (.agg #[.int .i64 a, .int .i64 i]) false).run Try.prog w = .ok (.int .i64 (f a i)) w := by
  obtain ⟨D, h1, h2, _⟩ := h
  obtain ⟨c, hrun, hat, _⟩ := h1.lookup_int law Try.underlying52 Try.underlying3 (zero _) (key_of hw)
  rw [h2 a i hw] at hat
  have : f a i = c := by simpa using hat
  rw [this]
  exact hrun

set_option maxRecDepth 100000 in
set_option maxHeartbeats 2000000 in
theorem iAddT (w : World) (B n gL m capL : Nat) (f : Int → Int → Int) (ls : List T3) (hl : ls.length = m) (hn : n ≤ 1000) (hg : gL < w.heap.size) (hne : gL ≠ B) (h : At3 w gL ls) (hF : Formed ls) (hf : Fine f) (ht : Tab w B n f) :
    Calls Try.prog 49 #[.map (some B), .slice (some ⟨gL, 0, none⟩) m capL] w fun e w' => ∃ ok : Bool, e = .returned (.bool ok) ∧ (ok = true → ∃ f', posts f ls = some f' ∧ Tab w' B (n + m) f' ∧ Fine f') ∧ (ok = false → posts f ls = none) ∧ w.grownBy w' (some B) := by
  have m160 : m ≤ 160 := by have := hF.1; omega
  have H := hide h
  have HF := hide hF
  have T0 := hide ht
  have F0 := hide hf
  clear h hF ht hf
  go_enter Try.func49, Try.ntmps49
  go_wp2
  go_loopw [6, 7, 8, 9, 12] (fun _ _ _ _ j wr => ∃ (k : Nat) (fk : Int → Int → Int), k ≤ m ∧ j = .int .i64 k ∧ Hid (Tab wr B (n + k) fk) ∧ Hid (Fine fk) ∧ Hid (posts f ls = posts fk (ls.drop k)) ∧ Hid (w.grownBy wr (some B))) (fun _ _ _ _ j _ => m - (intOf j).toNat)
  case atStart => exact ⟨0, f, by omega, rfl, T0, F0, hide rfl, hide (World.grownBy.refl _ _)⟩
  case round =>
    obtain ⟨k, fk, hk, rfl, HT, FK, HE, HG⟩ := hrel
    by_cases t : k < m
    · obtain ⟨e1, e2, e3⟩ := at3_grown (unhide H) (unhide HG) hg hne k (by omega)
      obtain ⟨l1, l2, l3⟩ := (unhide HF).2 k (by omega)
      have WF := wf_no l1 l2
      have AM := ((unhide FK) (el3 ls k).1 (el3 ls k).2.1).1
      obtain ⟨c, SC⟩ := says_of (Amt (fk (el3 ls k).1 (el3 ls k).2.1 + (el3 ls k).2.2))
      have PY := hide (fun a => (unhide HE).trans (posts_yes (f := fk) (ps := ls) (k := k) (by omega) a))
      have PN := hide (fun a => (unhide HE).trans (posts_no (f := fk) (ps := ls) (k := k) (by omega) a))
      have FU := hide (fun a => (unhide FK).upd (a := (el3 ls k).1) (i := (el3 ls k).2.1) (x := fk (el3 ls k).1 (el3 ls k).2.1 + (el3 ls k).2.2) l1 l2 a)
      have bl := (unhide HT).lt
      clear HE
      generalize (el3 ls k).1 = x at *
      generalize (el3 ls k).2.1 = y at *
      generalize (el3 ls k).2.2 = z at *
      have G1 := hide (grown_trans (grown_trans (unhide HG) (World.grownBy_alloc wr (.cells #[.int .i64 x, .int .i64 y, .int .i64 z] 34) (some B))) (World.grownBy_alloc (wr.alloc (.cells #[.int .i64 x, .int .i64 y, .int .i64 z] 34)) (.cells #[.int .i64 x, .int .i64 y] 59) (some B)))
      have T1 := hide (((unhide HT).kept (World.grownBy_alloc wr (.cells #[.int .i64 x, .int .i64 y, .int .i64 z] 34) none) (by simp)).kept (World.grownBy_alloc (wr.alloc (.cells #[.int .i64 x, .int .i64 y, .int .i64 z] 34)) (.cells #[.int .i64 x, .int .i64 y] 59) none) (by simp))
      go_wp2_with fail
      have d0 : ((wr.alloc (.cells #[.int .i64 x, .int .i64 y, .int .i64 z] 34)).alloc (.cells #[.int .i64 x, .int .i64 y] 59)).cell? ⟨wr.heap.size + 1, 0, none⟩ = some (.int .i64 x) := by simp
      have d1 : ((wr.alloc (.cells #[.int .i64 x, .int .i64 y, .int .i64 z] 34)).alloc (.cells #[.int .i64 x, .int .i64 y] 59)).cell? ⟨wr.heap.size + 1, 1, none⟩ = some (.int .i64 y) := by simp
      have d2 : ((wr.alloc (.cells #[.int .i64 x, .int .i64 y, .int .i64 z] 34)).alloc (.cells #[.int .i64 x, .int .i64 y] 59)).cell? ⟨wr.heap.size, 2, none⟩ = some (.int .i64 z) := by simp
      generalize (wr.alloc (.cells #[.int .i64 x, .int .i64 y, .int .i64 z] 34)).alloc (.cells #[.int .i64 x, .int .i64 y] 59) = u at *
      generalize wr.heap.size + 1 = kb at *
      have LK : ∀ q, (Instr.lookup 52 (.map (some B)) (.agg #[.int .i64 x, .int .i64 y]) false).run Try.prog (u.drewN q) = .ok (.int .i64 (fk x y)) (u.drewN q) := fun q => look_run (tab_drewN (unhide T1) q) WF
      generalize hv : fk x y = v at *
      have HV := hide hv
      clear hv e1 e2 e3
      go_quiet (first | (go_at_call 57; refine Calls.quiet_of_same (iAdd v z c _ AM l3 SC)))
      cases c
      · have NO := hide ((unhide PN) SC.no)
        clear PY PN FU
        go_wp2
        go_ret
        exact ⟨false, rfl, (fun e => by cases e), (fun _ => unhide NO), grown_drewN (unhide G1) _⟩
      · have YES := hide ((unhide PY) SC.yes)
        have FN := hide ((unhide FU) SC.yes)
        have WV := wf_amt SC.yes
        clear PY PN FU
        have e0 : sumIn v z true = v + z := rfl
        rw [e0]
        go_wp2_with (first | (at_mapUpdate; refine wp_put _ rfl _ _ _ 52 rfl Try.underlying52 B (n + k) fk rfl (tab_drewN (unhide T1) _) (by omega) x y (v + z) rfl rfl WF WV ?_) | go_in)
        intro w5 t5 g5
        have T5 := hide t5
        have G5 := hide (grown_trans (unhide G1) (grown_of_drewN g5))
        clear t5 g5
        go_wp2
        go_roundw
        case rel => exact ⟨k + 1, _, by omega, by go_num, T5, FN, YES, G5⟩
        case measure => simp [intOf]; omega
    · obtain rfl : k = m := by omega
      have E := hide (show posts f ls = some fk from by rw [unhide HE, List.drop_of_length_le (by omega)]; rfl)
      go_wp2
      go_ret
      exact ⟨true, rfl, (fun _ => ⟨fk, unhide E, unhide HT, unhide FK⟩), (fun e => by cases e), unhide HG⟩

end Go.Proofs.Ytnfopmmkecdmgaa.Post
