/- Contract of the model's BalsPost. Condition: lists of at most 2^20 elements. -/
import Derived.Test.YtnfopmmkecdmgaaPost2
import Derived.Deep.RegionHeld3
namespace Go.Proofs.Ytnfopmmkecdmgaa.SPost
open Go.ChangeShapes Go.WideShapes Go.ChangeAt Go.RowKit Bals Triples Cmp SOk3 IOk3 Tab Look SPut3 Out Put Legs Post Post2
set_option linter.unusedVariables false
set_option linter.unusedSimpArgs false

theorem ints_drewN {w : World} {g : Nat} {xs : List Int} (h : Ints.At w g xs) (m : Nat) : Ints.At (w.drewN m) g xs := h

set_option maxRecDepth 100000 in
set_option maxHeartbeats 4000000 in
theorem sBalsPost (w : World) (g n cap gL m capL gS s capS : Nat) (ps ls : List T3) (xs : List Int) (hp : ps.length = n) (hl : ls.length = m) (hs : xs.length = s) (n20 : n ≤ 1048576) (m20 : m ≤ 1048576) (s20 : s ≤ 1048576)
    (hg : g < w.heap.size) (hgL : gL < w.heap.size) (hgS : gS < w.heap.size) (h : At3 w g ps) (hL : At3 w gL ls) (hX : Ints.At w gS xs) :
    Calls Try.prog 9 #[.slice (some ⟨g, 0, none⟩) n cap, .slice (some ⟨gL, 0, none⟩) m capL, .slice (some ⟨gS, 0, none⟩) s capS] w (PostAnswers w ps ls xs) := by
  obtain ⟨b0, S0⟩ := says_of (Right ps)
  obtain ⟨b1, S1⟩ := says_of (Formed ls)
  have BAD := hide (show ¬ (b0 = true ∧ b1 = true ∧ s ≤ 20) → IsPost ps ls xs [] 1 from fun hb => .bad (fun r => hb ⟨S0.of r.1, S1.of r.2.1, by omega⟩))
  have H := hide h
  have HL := hide hL
  have HX := hide hX
  clear h hL hX
  go_enter Try.func9, Try.ntmps9
  go_wp2_with fail
  refine (sOk _ g n cap ps b0 hp n20 hg (unhide H) S0).mono ?_
  rintro e w1 ⟨rfl, n1⟩
  have A1 := hide ((unhide H).below n1 hg)
  have L1 := hide ((unhide HL).below n1 hgL)
  have B1 := hide n1
  have s1 := n1.size
  clear n1
  cases b0
  · have P0 := hide ((unhide BAD) (fun q => by cases q.1))
    go_wp2
    go_ret2
    exact none_posted (unhide P0) (unhide B1)
  go_wp2_with fail
  refine (sRight _ gL m capL ls b1 hl m20 (unhide L1) S1).mono ?_
  rintro e w2 ⟨rfl, rfl⟩
  cases b1
  · have P0 := hide ((unhide BAD) (fun q => by cases q.2.1))
    go_wp2
    go_ret2
    exact none_posted (unhide P0) (unhide B1)
  by_cases ts : ¬ s ≤ 20
  · have ts2 : (20 : Int) < (s : Int) := by omega
    have P0 := hide ((unhide BAD) (fun q => ts q.2.2))
    go_wp2
    go_ret2
    exact none_posted (unhide P0) (unhide B1)
  have ts : s ≤ 20 := by omega
  have ts2 : ¬ (20 : Int) < (s : Int) := by omega
  have ALL := hide (show Right ps ∧ Formed ls ∧ xs.length ≤ 20 from ⟨S0.yes, S1.yes, by omega⟩)
  have n160 : n ≤ 160 := by have := S0.yes.1; omega
  have m160 : m ≤ 160 := by have := S1.yes.1; omega
  have FF := hide (fine_of S0.yes)
  clear BAD
  have bq := (unhide B1).size
  have Z := hide (lit30 44 w2 w.heap.size bq)
  have A5 := hide ((unhide A1).below (one_more w2 (.cells #[] 44)) (by omega))
  go_wp2_with (first | (at_builtin; refine BalApp.wp_copy _ rfl _ _ rfl w.heap.size w2.heap.size n 0 ps g cap rfl rfl (unhide Z) hp (unhide A5) (by omega) (by simp; omega) ?_) | go_in)
  intro g6 c6 w6 o6 gr6 _
  have O6 := hide o6
  have B6 := hide (((unhide B1).alloc bq (.cells #[] 44)).grown gr6 (by simp; omega) (fun j hj => by cases hj; exact bq))
  clear o6 gr6
  have gl6 := (unhide O6).lt.2
  have b6 := (unhide B6).size
  obtain ⟨b, SB⟩ := says_of (Formed ls ∧ Even ls)
  go_wp2_with fail
  refine (sLegsOk _ gL m capL ls b hl m20 ((unhide HL).below (unhide B6) hgL) SB).mono ?_
  rintro e w7 ⟨rfl, q7, rfl⟩
  have O7 := hide (show Own3 44 (w6.drewN q7) w.heap.size g6 n c6 ps from unhide O6)
  have B7 := hide (below_drewN (unhide B6) q7)
  generalize w6.drewN q7 = w7 at *
  clear A1 L1 B1 Z A5 B6 O6 gl6 b6 bq s1
  cases b
  · have P0 := hide (IsPost.uneven (unhide ALL) (fun e => SB.no ⟨S1.yes, e⟩))
    go_wp2
    go_ret2
    exact ⟨ps, 2, g6, c6, unhide P0, by rw [hp]; rfl, by rw [hp]; exact unhide O7, unhide B7⟩
  have EV := hide SB.yes.2
  go_wp2
  go_loopw [9, 10, 11, 12] (fun l j _ _ wr => ∃ (out : List T3) (gO cO k : Nat), l = .slice (some ⟨gO, 0, none⟩) out.length cO ∧ j = .int .i64 k ∧ k ≤ m ∧ out.length ≤ 160 + k ∧ Hid (Own3 44 wr w.heap.size gO out.length cO out) ∧ Hid (Below w.heap.size w wr) ∧ Hid (Bals.Good out) ∧ Hid (Fine (val out)) ∧ Hid (posts (val ps) ls = posts (val out) (ls.drop k))) (fun _ j _ _ _ => m - (intOf j).toNat)
  case atStart => exact ⟨ps, g6, c6, 0, by rw [hp], rfl, by omega, by omega, hide (by rw [hp]; exact unhide O7), B7, hide S0.yes.good, FF, hide rfl⟩
  case round =>
    clear O7 B7
    obtain ⟨out, gO, cO, k, rfl, rfl, hk, ol, HO, HB, GD, FN, HE⟩ := hrel
    have gol := (unhide HO).lt.2
    have bs := (unhide HB).size
    by_cases t : k < m
    · obtain ⟨e1, e2, e3⟩ := (unhide HL).below (unhide HB) hgL k (by omega)
      obtain ⟨l1, l2, l3⟩ := S1.yes.2 k (by omega)
      have AM := ((unhide FN) (el3 ls k).1 (el3 ls k).2.1).1
      obtain ⟨c, SC⟩ := says_of (Amt (val out (el3 ls k).1 (el3 ls k).2.1 + (el3 ls k).2.2))
      have PY := hide (fun a => (unhide HE).trans (posts_yes (f := val out) (ps := ls) (k := k) (by omega) a))
      have PN := hide (fun a => (unhide HE).trans (posts_no (f := val out) (ps := ls) (k := k) (by omega) a))
      have FU := hide (fun a => (unhide FN).upd (a := (el3 ls k).1) (i := (el3 ls k).2.1) (x := val out (el3 ls k).1 (el3 ls k).2.1 + (el3 ls k).2.2) l1 l2 a)
      have OFC := hide (fun q => sOf (wr.drewN q) gO out.length cO out (el3 ls k).1 (el3 ls k).2.1 rfl (by omega) (at_drewN (unhide HO).at q))
      clear HE FN
      generalize (el3 ls k).1 = x at *
      generalize (el3 ls k).2.1 = y at *
      generalize (el3 ls k).2.2 = z at *
      generalize hv : val out x y = v at *
      have HV := hide hv
      clear hv
      have kn : (k : Int) < (m : Int) := by omega
      go_wp2_with fail
      go_quiet (first | (go_at_call 34; refine Calls.quiet_of_same ((unhide OFC) _)) | (go_at_call 33; refine Calls.quiet_of_same (sAdd v z c _ AM l3 SC)))
      have O1 := hide (show Own3 44 (wr.drewN nq) w.heap.size gO out.length cO out from unhide HO)
      have B1 := hide (below_drewN (unhide HB) nq)
      have d1 : (wr.drewN nq).cell? ⟨gL, k * 3, none⟩ = some (.int .i64 x) := e1
      have d2 : (wr.drewN nq).cell? ⟨gL, k * 3 + 1, none⟩ = some (.int .i64 y) := e2
      clear HO HB e1 e2 e3 OFC
      generalize wr.drewN nq = u at *
      have gol := (unhide O1).lt.2
      have bs := (unhide B1).size
      cases c
      · have P0 := hide (IsPost.large (unhide ALL) (unhide EV) ((unhide PN) SC.no))
        have A1 := hide ((unhide H).below (unhide B1) hg)
        clear PY PN FU d1 d2
        have bq := (unhide B1).size
        have Z := hide (lit30 44 u w.heap.size bq)
        have A5 := hide ((unhide A1).below (one_more u (.cells #[] 44)) (by omega))
        go_wp2_with (first | (at_builtin; refine BalApp.wp_copy _ rfl _ _ rfl w.heap.size u.heap.size n 0 ps g cap rfl rfl (unhide Z) hp (unhide A5) (by omega) (by simp; omega) ?_) | go_in)
        intro g6 c6 w6 o6 gr6 _
        have O6 := hide o6
        have B6 := hide (((unhide B1).alloc bq (.cells #[] 44)).grown gr6 (by simp; omega) (fun j hj => by cases hj; exact bq))
        clear o6 gr6
        go_wp2
        go_ret2
        exact ⟨ps, 4, g6, c6, unhide P0, by rw [hp]; rfl, by rw [hp]; exact unhide O6, unhide B6⟩
      · have YES := hide ((unhide PY) SC.yes)
        have FN2 := hide ((unhide FU) SC.yes)
        clear PY PN FU
        have e0 : sumIn v z true = v + z := rfl
        rw [e0]
        clear e0
        generalize hS : v + z = S at *
        clear hS
        obtain ⟨p0, hp0⟩ : ∃ p0 : Bool, (S == 0) = p0 := ⟨_, rfl⟩
        have PV := hide (put_val (x, y, S) out p0 (unhide GD) (by rw [← hp0]; simp))
        have LN := hide (putL_len (x, y, S) out p0)
        have HP := hide hp0
        clear hp0
        have k0 : (0 : Int) ≤ (k : Int) := by omega
        have gLu : gL < u.heap.size := by omega
        go_wp2_with fail
        go_region_held3 (fun w' => w'.cell? ⟨gL, k * 3, none⟩ = some (.int .i64 x) ∧ w'.cell? ⟨gL, k * 3 + 1, none⟩ = some (.int .i64 y)) (go_keep)
          (first | (go_at_call 35; refine (sPut _ gO out.length cO out x y S p0 rfl (by omega) (by exact gol) (by exact (unhide O1).at) (unhide HP)).mono ?_; rintro e w5 ⟨g5, c5, rfl, o5, n5⟩; have h1 : w5.cell? ⟨gL, k * 3, none⟩ = some (.int .i64 x) := (n5.cell (p := ⟨gL, k * 3, none⟩) (by exact gLu)).trans (by exact d1); have h2 : w5.cell? ⟨gL, k * 3 + 1, none⟩ = some (.int .i64 y) := (n5.cell (p := ⟨gL, k * 3 + 1, none⟩) (by exact gLu)).trans (by exact d2)))
        have O5 := hide (o5.rebase (base' := w.heap.size) (by have : u.heap.size ≤ g5 := o5.lt.1; omega))
        have B5 := hide (next (unhide B1) (show Below u.heap.size u w5 from ⟨n5.os, n5.tape, n5.output, n5.size, n5.block⟩))
        have VE : val (putL (x, y, S) out p0) = upd (val out) x y S := funext fun b => funext fun j => (unhide PV).2 b j
        have FN3 := hide (show Fine (val (putL (x, y, S) out p0)) from by rw [VE]; exact unhide FN2)
        have YE3 := hide (show posts (val ps) ls = posts (val (putL (x, y, S) out p0)) (ls.drop (k + 1)) from by rw [VE]; exact unhide YES)
        have LL : (putL (x, y, S) out p0).length ≤ out.length + 1 := by have := unhide LN; split at this <;> omega
        have GD3 := hide (unhide PV).1
        clear o5 n5 VE PV LN YES FN2 d1 d2 O1 B1
        generalize putL (x, y, S) out p0 = qs at *
        go_wp2
        go_roundw
        case rel => exact ⟨qs, g5, c5, k + 1, rfl, by go_num, by omega, by omega, O5, B5, GD3, FN3, YE3⟩
        case measure => simp [intOf]; omega
    · obtain rfl : k = m := by omega
      have EP := hide (show posts (val ps) ls = some (val out) from by rw [unhide HE, List.drop_of_length_le (by omega)]; rfl)
      have LO := hide (show ListOf (val out) out from ⟨unhide GD, fun _ _ => rfl⟩)
      clear HE
      go_wp2
      generalize wr = w8 at *
      go_loopw [13] (fun j wr => ∃ (i : Nat), j = .int .i64 i ∧ i ≤ k ∧ Hid (∃ q, wr = w8.drewN q) ∧ Hid (∀ j, j < i → ¬ (val out (el3 ls j).1 (el3 ls j).2.1 < 0 ∧ (el3 ls j).1 ∉ xs))) (fun j _ => k - (intOf j).toNat)
      case atStart => exact ⟨0, rfl, by omega, hide ⟨0, rfl⟩, hide (fun j hj => by omega)⟩
      case round =>
        obtain ⟨i, rfl, hi, HQ, HG⟩ := hrel
        obtain ⟨q8, e8⟩ := unhide HQ
        have O1 := hide (show Own3 44 wr w.heap.size gO out.length cO out from by rw [e8]; exact unhide HO)
        have B1 := hide (show Below w.heap.size w wr from by rw [e8]; exact below_drewN (unhide HB) q8)
        clear e8
        have gol := (unhide O1).lt.2
        have bs := (unhide B1).size
        by_cases t : i < k
        · obtain ⟨e1, e2, e3⟩ := (unhide HL).below (unhide B1) hgL i (by omega)
          obtain ⟨c, SC⟩ := says_of ((el3 ls i).1 ∈ xs)
          have YES := hide (show val out (el3 ls i).1 (el3 ls i).2.1 < 0 ∧ (el3 ls i).1 ∉ xs → Lacks (val out) ls xs from fun q => ⟨i, by omega, q.1, q.2⟩)
          have GO := hide (show ¬ (val out (el3 ls i).1 (el3 ls i).2.1 < 0 ∧ (el3 ls i).1 ∉ xs) → ∀ j, j < i + 1 → ¬ (val out (el3 ls j).1 (el3 ls j).2.1 < 0 ∧ (el3 ls j).1 ∉ xs) from fun q j hj => by
            by_cases e : j = i
            · subst e; exact q
            · exact (unhide HG) j (by omega))
          have OFC := hide (fun q => sOf (wr.drewN q) gO out.length cO out (el3 ls i).1 (el3 ls i).2.1 rfl (by omega) (at_drewN (unhide O1).at q))
          have HAC := hide (fun q => sHas (wr.drewN q) gS s capS xs (el3 ls i).1 c hs s20 (ints_drewN ((unhide HX).below (unhide B1) hgS) q) SC)
          generalize (el3 ls i).1 = x at *
          generalize (el3 ls i).2.1 = y at *
          generalize (el3 ls i).2.2 = z at *
          generalize hv : val out x y = v at *
          have HV := hide hv
          clear hv
          have kn : (i : Int) < (k : Int) := by omega
          by_cases v0 : v < 0
          · cases c
            · have P0 := hide (IsPost.short (val out) (unhide ALL) (unhide EV) (unhide EP) ((unhide YES) ⟨v0, SC.no⟩))
              clear YES GO
              go_wp2_with fail
              go_quiet (first | (go_at_call 34; refine Calls.quiet_of_same ((unhide OFC) _)) | (go_at_call 36; refine Calls.quiet_of_same ((unhide HAC) _)))
              have B2 := hide (below_drewN (unhide B1) nq)
              clear O1 B1 e1 e2 e3 OFC HAC
              generalize wr.drewN nq = u at *
              have A1 := hide ((unhide H).below (unhide B2) hg)
              have bu := (unhide B2).size
              have bq := (unhide B2).size
              have Z := hide (lit30 44 u w.heap.size bq)
              have A5 := hide ((unhide A1).below (one_more u (.cells #[] 44)) (by omega))
              go_wp2_with (first | (at_builtin; refine BalApp.wp_copy _ rfl _ _ rfl w.heap.size u.heap.size n 0 ps g cap rfl rfl (unhide Z) hp (unhide A5) (by omega) (by simp; omega) ?_) | go_in)
              intro g6 c6 w6 o6 gr6 _
              have O6 := hide o6
              have B6 := hide (((unhide B2).alloc bq (.cells #[] 44)).grown gr6 (by simp; omega) (fun j hj => by cases hj; exact bq))
              clear o6 gr6
              go_wp2
              go_ret2
              exact ⟨ps, 3, g6, c6, unhide P0, by rw [hp]; rfl, by rw [hp]; exact unhide O6, unhide B6⟩
            · have G := hide ((unhide GO) (fun q => q.2 SC.yes))
              clear YES GO
              go_wp2_with fail
              go_quiet (first | (go_at_call 34; refine Calls.quiet_of_same ((unhide OFC) _)) | (go_at_call 36; refine Calls.quiet_of_same ((unhide HAC) _)))
              go_wp2
              go_roundw
              case rel => exact ⟨i + 1, by go_num, by omega, hide (drewN_more (unhide HQ) _), G⟩
              case measure => simp [intOf]; omega
          · have G := hide ((unhide GO) (fun q => v0 q.1))
            have v0b : decide (v < 0) = false := decide_eq_false v0
            clear YES GO
            go_wp2_with fail
            go_quiet (first | (go_at_call 34; refine Calls.quiet_of_same ((unhide OFC) _)))
            go_wp2
            go_roundw
            case rel => exact ⟨i + 1, by go_num, by omega, hide (drewN_more (unhide HQ) _), G⟩
            case measure => simp [intOf]; omega
        · obtain rfl : i = k := by omega
          have NL := hide (show ¬ Lacks (val out) ls xs from fun r => by
            obtain ⟨j, hj, q⟩ := r
            exact (unhide HG) j (by omega) q)
          by_cases ln : out.length ≤ 160
          · have ln2 : ¬ (160 : Int) < (out.length : Int) := by omega
            have P0 := hide (IsPost.done (val out) out (unhide ALL) (unhide EV) (unhide EP) (unhide NL) (unhide LO) ln)
            go_wp2
            go_ret2
            exact ⟨out, 0, gO, cO, unhide P0, rfl, unhide O1, unhide B1⟩
          · have ln2 : (160 : Int) < (out.length : Int) := by omega
            have P0 := hide (IsPost.full (val out) out (unhide ALL) (unhide EV) (unhide EP) (unhide NL) (unhide LO) ln)
            have A1 := hide ((unhide H).below (unhide B1) hg)
            have bq := (unhide B1).size
            have Z := hide (lit30 44 wr w.heap.size bq)
            have A5 := hide ((unhide A1).below (one_more wr (.cells #[] 44)) (by omega))
            go_wp2_with (first | (at_builtin; refine BalApp.wp_copy _ rfl _ _ rfl w.heap.size wr.heap.size n 0 ps g cap rfl rfl (unhide Z) hp (unhide A5) (by omega) (by simp; omega) ?_) | go_in)
            intro g6 c6 w6 o6 gr6 _
            have O6 := hide o6
            have B6 := hide (((unhide B1).alloc bq (.cells #[] 44)).grown gr6 (by simp; omega) (fun j hj => by cases hj; exact bq))
            clear o6 gr6
            go_wp2
            go_ret2
            exact ⟨ps, 5, g6, c6, unhide P0, by rw [hp]; rfl, by rw [hp]; exact unhide O6, unhide B6⟩

end Go.Proofs.Ytnfopmmkecdmgaa.SPost
