/- Contracts of the model's put. Condition: a list of at most 100000 triples. -/
import Derived.Test.YtiecflifopmmoaaLook
import Derived.Test.YtiecflifopmmoaaBalApp
namespace Go.Proofs.Ytiecflifopmmoaa.SPut3
open Go.ChangeShapes Go.WideShapes Go.ChangeAt Go.RowKit Bals Triples Cmp SOk3 Tab Look
set_option linter.unusedVariables false
set_option linter.unusedSimpArgs false

theorem step_t {x y : T3} {r out : List T3} (h : y.1 ≠ x.1 ∨ y.2.1 ≠ x.2.1) : out ++ putL x (y :: r) true = (out ++ [y]) ++ putL x r true := by simp [putL, h]
theorem step_ts {x y : T3} {r out : List T3} (h : ¬ (y.1 ≠ x.1 ∨ y.2.1 ≠ x.2.1)) : out ++ putL x (y :: r) true = out ++ putL x r true := by simp [putL, h]
theorem step_f {x y : T3} {r out : List T3} (b : y.1 < x.1 ∨ (y.1 = x.1 ∧ y.2.1 < x.2.1)) : out ++ putL x (y :: r) false = (out ++ [y]) ++ putL x r false := by
  have h : y.1 ≠ x.1 ∨ y.2.1 ≠ x.2.1 := by omega
  simp [putL, b, h]
theorem step_i {x y : T3} {r out : List T3} (b : ¬ (y.1 < x.1 ∨ (y.1 = x.1 ∧ y.2.1 < x.2.1))) (h : y.1 ≠ x.1 ∨ y.2.1 ≠ x.2.1) : out ++ putL x (y :: r) false = (out ++ [x] ++ [y]) ++ putL x r true := by simp [putL, b, h]
theorem step_is {x y : T3} {r out : List T3} (b : ¬ (y.1 < x.1 ∨ (y.1 = x.1 ∧ y.2.1 < x.2.1))) (h : ¬ (y.1 ≠ x.1 ∨ y.2.1 ≠ x.2.1)) : out ++ putL x (y :: r) false = (out ++ [x]) ++ putL x r true := by simp [putL, b, h]

/-- What a list so far can come to bounds it. -/
theorem out_len {out l R : List T3} (h : out ++ l = R) : out.length ≤ R.length := by rw [← h]; simp

/-- An element that stands alone in its block. -/
theorem alone {w : World} {base g : Nat} {p : T3} (h : Own3 54 w base g 1 1 [p]) : Holds3 w g 0 p := h.at 0 (by simp)

set_option maxRecDepth 100000 in
set_option maxHeartbeats 4000000 in
theorem sPut (w : World) (g n cap : Nat) (ps : List T3) (a i x : Int) (put0 : Bool) (hl : ps.length = n) (h20 : n ≤ 100000) (hg : g < w.heap.size) (h : At3 w g ps) (hp : (x == 0) = put0) :
    Calls Try.prog 43 #[.slice (some ⟨g, 0, none⟩) n cap, .int .i64 a, .int .i64 i, .int .i64 x] w fun e w' => ∃ g' c', e = .returned (.slice (some ⟨g', 0, none⟩) (putL (a, i, x) ps put0).length c') ∧ Own3 54 w' w.heap.size g' (putL (a, i, x) ps put0).length c' (putL (a, i, x) ps put0) ∧ Below w.heap.size w w' := by
  have H := hide h
  have LR := hide (putL_len (a, i, x) ps put0)
  obtain ⟨R, hR⟩ : ∃ R, R = putL (a, i, x) ps put0 := ⟨_, rfl⟩
  have RL : R.length ≤ 100001 := by rw [hR]; refine Nat.le_trans (unhide LR) ?_; split <;> omega
  rw [← hR]
  have HR := hide hR
  have HP := hide hp
  clear h LR hR hp
  have O0 := hide ((lit30 54 w w.heap.size (Nat.le_refl _)).alloc (.cells #[.int .i64 a, .int .i64 i, .int .i64 x] 54))
  have X0 := hide (lit31 54 (w.alloc (.cells #[] 54)) w.heap.size a i x (by simp))
  have B0 := hide (show Below w.heap.size w ((w.alloc (.cells #[] 54)).alloc (.cells #[.int .i64 a, .int .i64 i, .int .i64 x] 54)) from ((Below.refl _ _).alloc (Nat.le_refl _) _).alloc (by simp) _)
  simp only [World.size_alloc] at X0
  go_enter Try.func43, Try.ntmps43
  go_wp2
  generalize (w.alloc (.cells #[] 54)).alloc (.cells #[.int .i64 a, .int .i64 i, .int .i64 x] 54) = w0 at *
  generalize hX : w.heap.size + 1 = X at *
  have hXl : w.heap.size < X := by omega
  clear hX
  go_loopw [9, 10, 12, 13] (fun l pv j _ wr => ∃ (out : List T3) (gO c k : Nat) (put : Bool), l = .slice (some ⟨gO, 0, none⟩) out.length c ∧ pv = .bool put ∧ j = .int .i64 k ∧ k ≤ n ∧ gO ≠ X ∧ Hid (Own3 54 wr w.heap.size gO out.length c out) ∧ Hid (Own3 54 wr w.heap.size X 1 1 [(a, i, x)]) ∧ Hid (out ++ putL (a, i, x) (ps.drop k) put = R) ∧ Hid (Below w.heap.size w wr)) (fun _ _ j _ _ => n - (intOf j).toNat)
  case atStart => exact ⟨[], w.heap.size, 0, 0, put0, rfl, by rw [unhide HP], rfl, by omega, by omega, O0, X0, hide (unhide HR).symm, B0⟩
  case round =>
    clear O0 X0 B0
    obtain ⟨out, gO, c, k, put, rfl, rfl, rfl, hk, gX, HO, HX, HE, HB⟩ := hrel
    have OL := out_len (unhide HE)
    have bs := (unhide HB).size
    have gl := (unhide HO).lt.2
    have xl := (unhide HX).lt.2
    by_cases t : k < n
    · obtain ⟨e1, e2, e3⟩ := (unhide H).below (unhide HB) hg k (by omega)
      have HE := hide (show out ++ putL (a, i, x) (el3 ps k :: ps.drop (k + 1)) put = R by rw [← drop_next (by omega)]; exact unhide HE)
      have EQ : el3 ps k = ((el3 ps k).1, (el3 ps k).2.1, (el3 ps k).2.2) := rfl
      rw [EQ] at HE
      clear EQ
      generalize (el3 ps k).1 = p at *
      generalize (el3 ps k).2.1 = q at *
      generalize (el3 ps k).2.2 = r at *
      have O1 := hide ((unhide HO).alloc (.cells #[.int .i64 p, .int .i64 q, .int .i64 r] 54))
      have X1 := hide ((unhide HX).alloc (.cells #[.int .i64 p, .int .i64 q, .int .i64 r] 54))
      have Y1 := hide (lit31 54 wr w.heap.size p q r bs)
      have B1 := hide ((unhide HB).alloc bs (.cells #[.int .i64 p, .int .i64 q, .int .i64 r] 54))
      obtain ⟨b4, B4⟩ := says_of (p < a ∨ (p = a ∧ q < i))
      clear HO HX HB
      cases put
      · cases b4
        · have B4n := B4.no
          go_wp2_with fail
          refine (sBefore p q a i false _ B4).mono ?_
          rintro e w9 ⟨rfl, rfl⟩
          generalize wr.alloc (.cells #[.int .i64 p, .int .i64 q, .int .i64 r] 54) = u at *
          generalize hy : wr.heap.size = yb at *
          clear hy
          have gY : gO ≠ yb := by omega
          have xY : X ≠ yb := by omega
          obtain ⟨x0, x1, x2⟩ := alone (unhide X1)
          have x0 : u.cell? ⟨X, 0, none⟩ = some (.int .i64 a) := x0
          have x1 : u.cell? ⟨X, 1, none⟩ = some (.int .i64 i) := x1
          have x2 : u.cell? ⟨X, 2, none⟩ = some (.int .i64 x) := x2
          have V5 := hide (show Holds3 (u.alloc (.cells #[.int .i64 a, .int .i64 i, .int .i64 x] 54)) u.heap.size 0 (a, i, x) from by unfold Holds3; simp)
          have s5 := (unhide B1).size
          go_wp2_with (first | (at_builtin; refine BalApp.wp_app _ rfl _ _ rfl w.heap.size gO out.length c out u.heap.size a i x rfl rfl ((unhide O1).alloc _) (unhide V5) (by omega) (by simp; omega) ?_) | go_in)
          intro g5 c5 w5 o5 gr5 loc5
          have O5 := hide o5
          have X5 := hide (((unhide X1).alloc (.cells #[.int .i64 a, .int .i64 i, .int .i64 x] 54)).kept gr5 (by simp; omega))
          have Y5 := hide (((unhide Y1).alloc (.cells #[.int .i64 a, .int .i64 i, .int .i64 x] 54)).kept gr5 (by simp; omega))
          have B5 := hide (((unhide B1).alloc s5 (.cells #[.int .i64 a, .int .i64 i, .int .i64 x] 54)).grown gr5 (by simp; omega) (fun j hj => by cases hj; exact (unhide O1).lt.1))
          have xl5 := (unhide X5).lt.2
          have gX5 : g5 ≠ X := by
            try simp at loc5
            have := (unhide X1).lt.2
            omega
          have gY5 : g5 ≠ yb := by
            try simp at loc5
            have := (unhide Y1).lt.2
            omega
          clear o5 gr5 loc5 V5
          obtain ⟨y0, y1, y2⟩ := alone (unhide Y5)
          have y0 : w5.cell? ⟨yb, 0, none⟩ = some (.int .i64 p) := y0
          have y1 : w5.cell? ⟨yb, 1, none⟩ = some (.int .i64 q) := y1
          have y2 : w5.cell? ⟨yb, 2, none⟩ = some (.int .i64 r) := y2
          by_cases o1 : p = a ∧ q = i
          · obtain ⟨rfl, rfl⟩ := o1
            go_wp2
            go_roundw
            case rel => exact ⟨out ++ [(p, q, x)], g5, c5, k + 1, true, by rw [show (out ++ [(p, q, x)]).length = out.length + 1 by simp], rfl, by go_num, by omega, gX5, hide (by rw [show (out ++ [(p, q, x)]).length = out.length + 1 by simp]; first | exact unhide O5 | simpa using unhide O5), X5, hide (by first | exact (step_is (y := (p, q, r)) B4n (by simp)).symm.trans (unhide HE) | simpa using (step_is (y := (p, q, r)) B4n (by simp)).symm.trans (unhide HE)), B5⟩
            case measure => simp [intOf]; omega
          · have EE := hide ((step_i (y := (p, q, r)) (x := (a, i, x)) (out := out) (r := ps.drop (k + 1)) B4n (by simp only; omega)).symm.trans (unhide HE))
            rcases (show p ≠ a ∨ (p = a ∧ q ≠ i) by omega) with o2 | ⟨rfl, o2⟩
            · have ob : (p == a) = false := by simpa using o2
              have V6 := hide (show Holds3 (w5.alloc (.cells #[.int .i64 p, .int .i64 q, .int .i64 r] 54)) w5.heap.size 0 (p, q, r) from by unfold Holds3; simp)
              have s6 := (unhide B5).size
              go_wp2_with (first | (at_builtin; refine BalApp.wp_app _ rfl _ _ rfl w.heap.size g5 (out.length + 1) c5 (out ++ [(a, i, x)]) w5.heap.size p q r rfl rfl ((unhide O5).alloc _) (unhide V6) (by omega) (by simp; omega) ?_) | go_in)
              intro g6 c6 w6 o6 gr6 loc6
              have O6 := hide o6
              have X6 := hide (((unhide X5).alloc (.cells #[.int .i64 p, .int .i64 q, .int .i64 r] 54)).kept gr6 (by simp; omega))
              have Y6 := hide (((unhide Y5).alloc (.cells #[.int .i64 p, .int .i64 q, .int .i64 r] 54)).kept gr6 (by simp; omega))
              have B6 := hide (((unhide B5).alloc s6 (.cells #[.int .i64 p, .int .i64 q, .int .i64 r] 54)).grown gr6 (by simp; omega) (fun j hj => by cases hj; exact (unhide O5).lt.1))
              have xl6 := (unhide X6).lt.2
              have gX6 : g6 ≠ X := by
                try simp at loc6
                have := (unhide X5).lt.2
                omega
              have gY6 : g6 ≠ yb := by
                try simp at loc6
                have := (unhide Y5).lt.2
                omega
              clear o6 gr6 loc6 V6
              go_wp2
              go_roundw
              case rel => exact ⟨out ++ [(a, i, x)] ++ [(p, q, r)], g6, c6, k + 1, true, by rw [show (out ++ [(a, i, x)] ++ [(p, q, r)]).length = out.length + 1 + 1 by simp], rfl, by go_num, by omega, gX6, hide (by rw [show (out ++ [(a, i, x)] ++ [(p, q, r)]).length = out.length + 1 + 1 by simp]; first | exact unhide O6 | simpa using unhide O6), X6, hide (by first | exact unhide EE | simpa using unhide EE), B6⟩
              case measure => simp [intOf]; omega
            · have ob : (q == i) = false := by simpa using o2
              have V6 := hide (show Holds3 (w5.alloc (.cells #[.int .i64 p, .int .i64 q, .int .i64 r] 54)) w5.heap.size 0 (p, q, r) from by unfold Holds3; simp)
              have s6 := (unhide B5).size
              go_wp2_with (first | (at_builtin; refine BalApp.wp_app _ rfl _ _ rfl w.heap.size g5 (out.length + 1) c5 (out ++ [(p, i, x)]) w5.heap.size p q r rfl rfl ((unhide O5).alloc _) (unhide V6) (by omega) (by simp; omega) ?_) | go_in)
              intro g6 c6 w6 o6 gr6 loc6
              have O6 := hide o6
              have X6 := hide (((unhide X5).alloc (.cells #[.int .i64 p, .int .i64 q, .int .i64 r] 54)).kept gr6 (by simp; omega))
              have Y6 := hide (((unhide Y5).alloc (.cells #[.int .i64 p, .int .i64 q, .int .i64 r] 54)).kept gr6 (by simp; omega))
              have B6 := hide (((unhide B5).alloc s6 (.cells #[.int .i64 p, .int .i64 q, .int .i64 r] 54)).grown gr6 (by simp; omega) (fun j hj => by cases hj; exact (unhide O5).lt.1))
              have xl6 := (unhide X6).lt.2
              have gX6 : g6 ≠ X := by
                try simp at loc6
                have := (unhide X5).lt.2
                omega
              have gY6 : g6 ≠ yb := by
                try simp at loc6
                have := (unhide Y5).lt.2
                omega
              clear o6 gr6 loc6 V6
              go_wp2
              go_roundw
              case rel => exact ⟨out ++ [(p, i, x)] ++ [(p, q, r)], g6, c6, k + 1, true, by rw [show (out ++ [(p, i, x)] ++ [(p, q, r)]).length = out.length + 1 + 1 by simp], rfl, by go_num, by omega, gX6, hide (by rw [show (out ++ [(p, i, x)] ++ [(p, q, r)]).length = out.length + 1 + 1 by simp]; first | exact unhide O6 | simpa using unhide O6), X6, hide (by first | exact unhide EE | simpa using unhide EE), B6⟩
              case measure => simp [intOf]; omega
        · have B4y := B4.yes
          have EE := hide ((step_f (y := (p, q, r)) (x := (a, i, x)) (out := out) (r := ps.drop (k + 1)) B4y).symm.trans (unhide HE))
          go_wp2_with fail
          refine (sBefore p q a i true _ B4).mono ?_
          rintro e w9 ⟨rfl, rfl⟩
          generalize wr.alloc (.cells #[.int .i64 p, .int .i64 q, .int .i64 r] 54) = u at *
          generalize hy : wr.heap.size = yb at *
          clear hy
          have gY : gO ≠ yb := by omega
          have xY : X ≠ yb := by omega
          obtain ⟨y0, y1, y2⟩ := alone (unhide Y1)
          have y0 : u.cell? ⟨yb, 0, none⟩ = some (.int .i64 p) := y0
          have y1 : u.cell? ⟨yb, 1, none⟩ = some (.int .i64 q) := y1
          have y2 : u.cell? ⟨yb, 2, none⟩ = some (.int .i64 r) := y2
          rcases (show p ≠ a ∨ (p = a ∧ q ≠ i) by omega) with o2 | ⟨rfl, o2⟩
          · have ob : (p == a) = false := by simpa using o2
            have V6 := hide (show Holds3 (u.alloc (.cells #[.int .i64 p, .int .i64 q, .int .i64 r] 54)) u.heap.size 0 (p, q, r) from by unfold Holds3; simp)
            have s6 := (unhide B1).size
            go_wp2_with (first | (at_builtin; refine BalApp.wp_app _ rfl _ _ rfl w.heap.size gO out.length c out u.heap.size p q r rfl rfl ((unhide O1).alloc _) (unhide V6) (by omega) (by simp; omega) ?_) | go_in)
            intro g6 c6 w6 o6 gr6 loc6
            have O6 := hide o6
            have X6 := hide (((unhide X1).alloc (.cells #[.int .i64 p, .int .i64 q, .int .i64 r] 54)).kept gr6 (by simp; omega))
            have Y6 := hide (((unhide Y1).alloc (.cells #[.int .i64 p, .int .i64 q, .int .i64 r] 54)).kept gr6 (by simp; omega))
            have B6 := hide (((unhide B1).alloc s6 (.cells #[.int .i64 p, .int .i64 q, .int .i64 r] 54)).grown gr6 (by simp; omega) (fun j hj => by cases hj; exact (unhide O1).lt.1))
            have xl6 := (unhide X6).lt.2
            have gX6 : g6 ≠ X := by
              try simp at loc6
              have := (unhide X1).lt.2
              omega
            have gY6 : g6 ≠ yb := by
              try simp at loc6
              have := (unhide Y1).lt.2
              omega
            clear o6 gr6 loc6 V6
            go_wp2
            go_roundw
            case rel => exact ⟨out ++ [(p, q, r)], g6, c6, k + 1, false, by rw [show (out ++ [(p, q, r)]).length = out.length + 1 by simp], rfl, by go_num, by omega, gX6, hide (by rw [show (out ++ [(p, q, r)]).length = out.length + 1 by simp]; first | exact unhide O6 | simpa using unhide O6), X6, hide (by first | exact unhide EE | simpa using unhide EE), B6⟩
            case measure => simp [intOf]; omega
          · have ob : (q == i) = false := by simpa using o2
            have V6 := hide (show Holds3 (u.alloc (.cells #[.int .i64 p, .int .i64 q, .int .i64 r] 54)) u.heap.size 0 (p, q, r) from by unfold Holds3; simp)
            have s6 := (unhide B1).size
            go_wp2_with (first | (at_builtin; refine BalApp.wp_app _ rfl _ _ rfl w.heap.size gO out.length c out u.heap.size p q r rfl rfl ((unhide O1).alloc _) (unhide V6) (by omega) (by simp; omega) ?_) | go_in)
            intro g6 c6 w6 o6 gr6 loc6
            have O6 := hide o6
            have X6 := hide (((unhide X1).alloc (.cells #[.int .i64 p, .int .i64 q, .int .i64 r] 54)).kept gr6 (by simp; omega))
            have Y6 := hide (((unhide Y1).alloc (.cells #[.int .i64 p, .int .i64 q, .int .i64 r] 54)).kept gr6 (by simp; omega))
            have B6 := hide (((unhide B1).alloc s6 (.cells #[.int .i64 p, .int .i64 q, .int .i64 r] 54)).grown gr6 (by simp; omega) (fun j hj => by cases hj; exact (unhide O1).lt.1))
            have xl6 := (unhide X6).lt.2
            have gX6 : g6 ≠ X := by
              try simp at loc6
              have := (unhide X1).lt.2
              omega
            have gY6 : g6 ≠ yb := by
              try simp at loc6
              have := (unhide Y1).lt.2
              omega
            clear o6 gr6 loc6 V6
            go_wp2
            go_roundw
            case rel => exact ⟨out ++ [(p, q, r)], g6, c6, k + 1, false, by rw [show (out ++ [(p, q, r)]).length = out.length + 1 by simp], rfl, by go_num, by omega, gX6, hide (by rw [show (out ++ [(p, q, r)]).length = out.length + 1 by simp]; first | exact unhide O6 | simpa using unhide O6), X6, hide (by first | exact unhide EE | simpa using unhide EE), B6⟩
            case measure => simp [intOf]; omega
      · clear B4
        by_cases o1 : p = a ∧ q = i
        · obtain ⟨rfl, rfl⟩ := o1
          have EE := hide ((step_ts (y := (p, q, r)) (x := (p, q, x)) (out := out) (r := ps.drop (k + 1)) (by simp)).symm.trans (unhide HE))
          go_wp2
          go_roundw
          case rel => exact ⟨out, gO, c, k + 1, true, rfl, rfl, by go_num, by omega, gX, O1, X1, hide (by first | exact unhide EE | simpa using unhide EE), B1⟩
          case measure => simp [intOf]; omega
        · have EE := hide ((step_t (y := (p, q, r)) (x := (a, i, x)) (out := out) (r := ps.drop (k + 1)) (by simp only; omega)).symm.trans (unhide HE))
          have Vb := hide (show Holds3 ((wr.alloc (.cells #[.int .i64 p, .int .i64 q, .int .i64 r] 54)).alloc (.cells #[.int .i64 p, .int .i64 q, .int .i64 r] 54)) (wr.heap.size + 1) 0 (p, q, r) from by unfold Holds3; simp)
          rcases (show p ≠ a ∨ (p = a ∧ q ≠ i) by omega) with o2 | ⟨rfl, o2⟩
          · have ob : (p == a) = false := by simpa using o2
            go_wp2_with (first | (at_builtin; refine BalApp.wp_app _ rfl _ _ rfl w.heap.size gO out.length c out (wr.heap.size + 1) p q r rfl rfl ((unhide O1).alloc _) (unhide Vb) (by omega) (by simp; omega) ?_) | go_in)
            intro g6 c6 w6 o6 gr6 loc6
            have O6 := hide o6
            have X6 := hide (((unhide X1).alloc (.cells #[.int .i64 p, .int .i64 q, .int .i64 r] 54)).kept gr6 (by simp; omega))
            have B6 := hide (((unhide B1).alloc (unhide B1).size (.cells #[.int .i64 p, .int .i64 q, .int .i64 r] 54)).grown gr6 (by simp; omega) (fun j hj => by cases hj; exact (unhide O1).lt.1))
            have gX6 : g6 ≠ X := by
              try simp at loc6
              omega
            clear o6 gr6 loc6
            go_wp2
            go_roundw
            case rel => exact ⟨out ++ [(p, q, r)], g6, c6, k + 1, true, by rw [show (out ++ [(p, q, r)]).length = out.length + 1 by simp], rfl, by go_num, by omega, gX6, hide (by rw [show (out ++ [(p, q, r)]).length = out.length + 1 by simp]; first | exact unhide O6 | simpa using unhide O6), X6, hide (by first | exact unhide EE | simpa using unhide EE), B6⟩
            case measure => simp [intOf]; omega
          · have ob : (q == i) = false := by simpa using o2
            go_wp2_with (first | (at_builtin; refine BalApp.wp_app _ rfl _ _ rfl w.heap.size gO out.length c out (wr.heap.size + 1) p q r rfl rfl ((unhide O1).alloc _) (unhide Vb) (by omega) (by simp; omega) ?_) | go_in)
            intro g6 c6 w6 o6 gr6 loc6
            have O6 := hide o6
            have X6 := hide (((unhide X1).alloc (.cells #[.int .i64 p, .int .i64 q, .int .i64 r] 54)).kept gr6 (by simp; omega))
            have B6 := hide (((unhide B1).alloc (unhide B1).size (.cells #[.int .i64 p, .int .i64 q, .int .i64 r] 54)).grown gr6 (by simp; omega) (fun j hj => by cases hj; exact (unhide O1).lt.1))
            have gX6 : g6 ≠ X := by
              try simp at loc6
              omega
            clear o6 gr6 loc6
            go_wp2
            go_roundw
            case rel => exact ⟨out ++ [(p, q, r)], g6, c6, k + 1, true, by rw [show (out ++ [(p, q, r)]).length = out.length + 1 by simp], rfl, by go_num, by omega, gX6, hide (by rw [show (out ++ [(p, q, r)]).length = out.length + 1 by simp]; first | exact unhide O6 | simpa using unhide O6), X6, hide (by first | exact unhide EE | simpa using unhide EE), B6⟩
            case measure => simp [intOf]; omega
    · obtain rfl : k = n := by omega
      have HE := hide (show out ++ putL (a, i, x) [] put = R by rw [← List.drop_of_length_le (show ps.length ≤ k by omega)]; exact unhide HE)
      cases put
      · have EE := hide (show out ++ [(a, i, x)] = R from by rw [← unhide HE]; simp [putL])
        obtain ⟨x0, x1, x2⟩ := alone (unhide HX)
        have x0 : wr.cell? ⟨X, 0, none⟩ = some (.int .i64 a) := x0
        have x1 : wr.cell? ⟨X, 1, none⟩ = some (.int .i64 i) := x1
        have x2 : wr.cell? ⟨X, 2, none⟩ = some (.int .i64 x) := x2
        have Vb := hide (show Holds3 (wr.alloc (.cells #[.int .i64 a, .int .i64 i, .int .i64 x] 54)) wr.heap.size 0 (a, i, x) from by unfold Holds3; simp)
        go_wp2_with (first | (at_builtin; refine BalApp.wp_app _ rfl _ _ rfl w.heap.size gO out.length c out wr.heap.size a i x rfl rfl ((unhide HO).alloc _) (unhide Vb) (by omega) (by simp; omega) ?_) | go_in)
        intro g6 c6 w6 o6 gr6 loc6
        have O6 := hide o6
        have B6 := hide (((unhide HB).alloc bs (.cells #[.int .i64 a, .int .i64 i, .int .i64 x] 54)).grown gr6 (by simp; omega) (fun j hj => by cases hj; exact (unhide HO).lt.1))
        clear o6 gr6 loc6
        go_wp2
        go_ret
        refine ⟨g6, c6, ?_, ?_, unhide B6⟩
        · rw [← unhide EE]; simp
        · rw [← unhide EE, show (out ++ [(a, i, x)]).length = out.length + 1 by simp]; exact unhide O6
      · have EE := hide (show out = R from by rw [← unhide HE]; simp [putL])
        go_wp2
        go_ret
        exact ⟨gO, c, by rw [← unhide EE]; rfl, by rw [← unhide EE]; exact unhide HO, unhide HB⟩

end Go.Proofs.Ytiecflifopmmoaa.SPut3
