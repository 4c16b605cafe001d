/- Contracts of LegsOk, the model's and the program's, and of the program's table of sums by instrument. Condition: a list of at most 2^20 triples. -/
import Derived.Test.YtiecflifopmmoaaLook
namespace Go.Proofs.Ytiecflifopmmoaa.Legs
open Go.ChangeShapes Go.WideShapes Go.ChangeAt Go.RowKit Bals Triples Cmp SOk3 IOk3 Tab Look
set_option linter.unusedVariables false
set_option linter.unusedSimpArgs false

/-- Block B is a table by number that tells g. -/
def STab (w : World) (B n : Nat) (g : Int → Int) : Prop := ∃ D : D0, w.ownsMap Try.prog 3 (plainElem Try.prog 3) B n D ∧ ∀ i, (Lit.int .i64 i).wf = true → D.atKey (.int .i64 i) (.lit (.int .i64 0)) = .lit (.int .i64 (g i))

theorem stab_made (w : World) : STab (w.alloc (.map #[] 0)) w.heap.size 0 (fun _ => 0) := ⟨.map [], World.ownsMap_made _ _ _ _, fun i h => rfl⟩

theorem STab.kept {w w' : World} {B n : Nat} {f : Int → Int} {row : Option Nat} (h : STab w B n f) (hg : w.grownBy w' row) (hne : some B ≠ row) : STab w' B n f := by
  obtain ⟨D, h1, h2⟩ := h
  exact ⟨D, h1.kept hg hne, h2⟩
theorem STab.lt {w : World} {B n : Nat} {f : Int → Int} (h : STab w B n f) : B < w.heap.size := by
  obtain ⟨D, h1, _⟩ := h
  exact h1.lt

theorem wps_look (w : World) {ops : Array Oper} {rest : List Oper} {o : Oper} {s : Act} {Q : Exit → Act → World → Prop}
    (hg : o.guard = none) (m x : Operand) (t : TypeId) (hop : o.op = Op.lookup t m x false) (ht : Try.prog.underlying t = some (.map 3 3)) (B n : Nat) (f : Int → Int) (hm : s.eval m = .map (some B)) (hown : STab w B n f)
    (i : Int) (hx : s.eval x = .int .i64 i) (hw : (Lit.int .i64 i).wf = true)
    (hK : wpList Try.prog ops Q rest (s.put o.dst (.int .i64 (f i))) w) : wpList Try.prog ops Q (o :: rest) s w := by
  obtain ⟨D, h1, h2⟩ := hown
  refine wpList_lookup_own_int w hg m x t hop 3 3 .i64 lawI ht Try.underlying3 (zero _) B n D hm h1 _ (.int .i64 i) hx (Maps.keyOf_int_mk Try.underlying3 hw) ?_
  intro c hat hwc
  rw [h2 i hw] at hat
  have : f i = c := by simpa using hat
  rw [← this]
  exact hK

theorem wps_put (w : World) {ops : Array Oper} {rest : List Oper} {o : Oper} {s : Act} {Q : Exit → Act → World → Prop}
    (hg : o.guard = none) (m x y : Operand) (t : TypeId) (hop : o.op = Op.mapUpdate t m x y) (ht : Try.prog.underlying t = some (.map 3 3)) (B n : Nat) (f : Int → Int) (hm : s.eval m = .map (some B)) (hown : STab w B n f) (hn : n ≤ 1048576)
    (i v : Int) (hx : s.eval x = .int .i64 i) (hy : s.eval y = .int .i64 v) (hw : (Lit.int .i64 i).wf = true) (hv : (Lit.int .i64 v).wf = true)
    (hK : ∀ w', STab w' B (n + 1) (fun j => if j = i then v else f j) → w.grownBy w' (some B) → wpList Try.prog ops Q rest (s.put o.dst undef) w') : wpList Try.prog ops Q (o :: rest) s w := by
  obtain ⟨D, h1, h2⟩ := hown
  refine wpList_mapUpdate_own w hg m x y t hop 3 3 lawI ht _ B n D hm h1 (by unfold maxLen; omega) _ _ (.int .i64 i) hx hy (Maps.keyOf_int_mk Try.underlying3 hw) (.lit (.int .i64 v)) [] (plainElem_int Try.underlying3 hv) ?_
  intro w' h3 h4
  refine hK w' ⟨_, h3, fun j hj => ?_⟩ h4
  show _ = DataW.lit (Lit.int .i64 (if j = i then v else f j))
  by_cases e : j = i
  · subst e
    rw [if_pos rfl, Maps.atKey_put_same (isMap_of h1) (show WideAt.IsKeyLit (Lit.int .i64 j) from trivial)]
  · rw [if_neg e, Maps.atKey_put_other (fun q => e (by simpa using q)), h2 j hj]

/-- Block B is a table that tells g, block r goes over it; left: the numbers still to come. -/
def RSTab (w : World) (B r n : Nat) (g : Int → Int) (left : Int → Bool) (cnt : Nat) : Prop :=
  ∃ (D : D0) (lf : Lit → Bool), w.ranges Try.prog 3 (plainElem Try.prog 3) B r n D lf cnt ∧ (∀ i, (Lit.int .i64 i).wf = true → D.atKey (.int .i64 i) (.lit (.int .i64 0)) = .lit (.int .i64 (g i))) ∧ ∀ i, left i = lf (.int .i64 i)

theorem RSTab.left_eq {w : World} {B r n : Nat} {f : Int → Int} {left : Int → Bool} {cnt : Nat} (h : RSTab w B r n f left cnt) : w.rangeLeft B r = cnt := by
  obtain ⟨D, lf, h1, _⟩ := h
  exact h1.left_eq

theorem wps_range (w : World) {ops : Array Oper} {rest : List Oper} {o : Oper} {s : Act} {Q : Exit → Act → World → Prop}
    (hg : o.guard = none) (m : Operand) (t : TypeId) (hop : o.op = Op.range t m) (ht : Try.prog.underlying t = some (.map 3 3)) (B n : Nat) (f : Int → Int) (hm : s.eval m = .map (some B)) (hown : STab w B n f)
    (hK : ∀ w' left cnt, RSTab w' B w.heap.size n f left cnt → (∀ i, (Lit.int .i64 i).wf = true → left i = false → f i = 0) → w.grownBy w' none → w'.heap.size = w.heap.size + 1 → wpList Try.prog ops Q rest (s.put o.dst (.pointer (some ⟨w.heap.size, 0, none⟩))) w') : wpList Try.prog ops Q (o :: rest) s w := by
  obtain ⟨D, h1, h2⟩ := hown
  refine wpList_range_own w hg m t hop 3 3 lawI ht _ B n D hm h1 ?_
  intro w' h3 h4 h5
  refine hK w' (fun i => Maps.has D (.int .i64 i)) (Maps.size D) ⟨D, Maps.has D, h3, h2, fun i => rfl⟩ ?_ h4 h5
  intro i hw nh
  have e := h2 i hw
  rw [Maps.atKey_of_not_has nh] at e
  have : (0 : Int) = f i := by simpa using e
  exact this.symm

theorem wps_next (w : World) {ops : Array Oper} {rest : List Oper} {o : Oper} {s : Act} {Q : Exit → Act → World → Prop}
    (hg : o.guard = none) (it : Operand) (hop : o.op = Op.next it false) (B r n : Nat) (f : Int → Int) (left : Int → Bool) (cnt : Nat) (hit : s.eval it = .pointer (some ⟨r, 0, none⟩)) (h : RSTab w B r n f left cnt)
    (hDone : cnt = 0 → (∀ i, left i = false) → wpList Try.prog ops Q rest (s.put o.dst (.tuple #[.bool false])) w)
    (hMore : ∀ (i : Int) (w' : World) (left' : Int → Bool) (cnt' : Nat), (Lit.int .i64 i).wf = true → (∀ j, left' j = false → left j = false ∨ j = i) → RSTab w' B r n f left' cnt' → cnt' < cnt → w.grownBy w' (some r) → w'.heap.size = w.heap.size →
      (Instr.entry (.pointer (some ⟨r, 0, none⟩))).run Try.prog w' = .ok (.tuple #[.int .i64 i, .int .i64 (f i)]) w' → wpList Try.prog ops Q rest (s.put o.dst (.tuple #[.bool true, .int .i64 i, .int .i64 (f i)])) w') :
    wpList Try.prog ops Q (o :: rest) s w := by
  obtain ⟨D, lf, h1, h2, h3⟩ := h
  refine wpList_next_ranges_ii w hg it hop 3 3 .i64 .i64 lawI Try.underlying3 Try.underlying3 B r n D lf cnt hit h1 ?_ ?_
  · intro h4 h5
    exact hDone h4 (fun i => by rw [h3 i, h5])
  · intro x c w' cnt' hwx hwc hlx hat hrg hlt hgr hsz hen
    have ef : f x = c := by
      have := h2 x hwx
      rw [hat] at this
      simpa using this.symm
    subst ef
    refine hMore x w' (fun j => lf (.int .i64 j) && !(Lit.int .i64 j).sameKey (.int .i64 x)) cnt' hwx (fun j hj => ?_) ⟨D, _, hrg, h2, fun j => rfl⟩ hlt hgr hsz hen
    rw [h3 j]
    by_cases q : j = x
    · exact .inr q
    · rw [Maps.sameKey_ne (fun e => q (by simpa using e))] at hj
      exact .inl (by simpa using hj)

set_option maxRecDepth 100000 in
set_option maxHeartbeats 1000000 in
theorem iEven (w : World) (g n cap : Nat) (ps : List T3) (b : Bool) (hl : ps.length = n) (hg : g < w.heap.size) (h : At3 w g ps) (hf : Formed ps) (hb : Says b (Even ps)) :
    Calls Try.prog 50 #[.slice (some ⟨g, 0, none⟩) n cap] w fun e w' => e = .returned (.bool b) ∧ Below w.heap.size w w' := by
  have h160 : n ≤ 160 := by have := hf.1; omega
  have H := hide h
  have HF := hide hf
  have HE := hide hb
  clear h hf hb
  have RB := hide (fun i k hk => sum_near (ps := ps) i (unhide HF).1 (fun j hj => ((unhide HF).2 j hj).2.2) k hk)
  have hmm := @run_makeMap Try.prog
  go_enter Try.func50, Try.ntmps50
  go_wp2
  go_loopw [5, 11] (fun _ j wr => ∃ (k : Nat), k ≤ n ∧ j = .int .i64 k ∧ STab wr w.heap.size k (sumI (ps.take k)) ∧ Below w.heap.size w wr) (fun _ j _ => n - (intOf j).toNat)
  case atStart => exact ⟨0, by omega, rfl, stab_made w, (Below.refl _ _).alloc (Nat.le_refl _) _⟩
  case round =>
    obtain ⟨k, hk, rfl, ht, hb⟩ := hrel
    by_cases t : k < n
    · obtain ⟨e1, e2, e3⟩ := (unhide H).below hb hg k (by omega)
      have SN := hide (fun i => sumI_next (ps := ps) (k := k) (by omega) i)
      have R1 := (unhide RB) (el3 ps k).2.1 (k + 1) (by omega)
      rw [unhide SN, if_pos rfl] at R1
      obtain ⟨r1, r2, r3⟩ := (unhide HF).2 k (by omega)
      have WI := (wf_no r1 r2).2
      have bl := ht.lt
      have HB := hide hb
      have t1 := ht.kept (World.grownBy_alloc wr (.cells #[.int .i64 (el3 ps k).1, .int .i64 (el3 ps k).2.1, .int .i64 (el3 ps k).2.2] 71) none) (by simp)
      have HT := hide t1
      clear hb ht r1 r2 r3 t1
      generalize (el3 ps k).1 = x at *
      generalize (el3 ps k).2.1 = y at *
      generalize (el3 ps k).2.2 = z at *
      have wr1 : IntKind.i64.wrap (sumI (ps.take k) y + z) = sumI (ps.take k) y + z := by rw [IntKind.wrap_i64]; omega
      have WV : (Lit.int .i64 (sumI (ps.take k) y + z)).wf = true := WalkArith.wf_i64 (by omega)
      have ST := hide (fun (w1 : World) (q : STab w1 w.heap.size (k + 1) (fun j => if j = y then sumI (ps.take k) y + z else sumI (ps.take k) j)) => (show STab w1 w.heap.size (k + 1) (sumI (ps.take (k + 1))) from by
        have e : (fun j => if j = y then sumI (ps.take k) y + z else sumI (ps.take k) j) = sumI (ps.take (k + 1)) := by
          funext j
          rw [unhide SN]
          by_cases q : j = y
          · subst q; rw [if_pos rfl, if_pos rfl]
          · rw [if_neg q, if_neg (fun r => q r.symm), Int.add_zero]
        exact e ▸ q))
      generalize hS : sumI (ps.take k) y = S at *
      have HS := hide hS
      clear hS R1
      go_wp2_with (first | (at_lookup; refine wps_look _ rfl _ _ 83 rfl Try.underlying83 w.heap.size k _ rfl (unhide HT) y rfl WI ?_; rw [unhide HS]) | (at_mapUpdate; refine wps_put _ rfl _ _ _ 83 rfl Try.underlying83 w.heap.size k _ rfl (unhide HT) (by omega) y (S + z) rfl rfl WI WV ?_; intro w1 t1 g1) | go_in)
      go_roundw
      case rel =>
        refine ⟨k + 1, by omega, by go_num, (unhide ST) w1 t1, ?_⟩
        exact ((unhide HB).alloc (unhide HB).size _).grown g1 (by simp; have := (unhide HB).size; omega) (by simp)
      case measure => simp [intOf]; omega
    · obtain rfl : k = n := by omega
      rw [List.take_of_length_le (by omega)] at ht
      have HT := hide ht
      have HB := hide hb
      have bl := ht.lt
      clear ht hb
      go_wp2_with (first | (at_range; refine wps_range _ rfl _ 83 rfl Try.underlying83 w.heap.size k _ rfl (unhide HT) ?_; intro w0 left0 cnt0 rt0 lz0 g0 s0) | go_in)
      go_frame
      have RT := hide rt0
      have LZ := hide lz0
      have B0 := hide (next (unhide HB) (grownBy_below g0))
      have hRl := (unhide HB).size
      clear rt0 lz0 g0
      generalize wr.heap.size = R at *
      go_loopw [7] (fun _ wq => ∃ (left : Int → Bool) (cnt : Nat), Hid (RSTab wq w.heap.size R k (sumI ps) left cnt) ∧ Hid (∀ i, (Lit.int .i64 i).wf = true → left i = false → sumI ps i = 0) ∧ Hid (Below w.heap.size w wq)) (fun _ wq => wq.rangeLeft w.heap.size R)
      case atStart => exact ⟨left0, cnt0, RT, LZ, B0⟩
      case round =>
        clear RT LZ B0
        obtain ⟨left, cnt, RT, LZ, B0⟩ := hrel
        go_wp2_with (first | (at_next; refine wps_next _ rfl _ rfl w.heap.size R k _ left cnt rfl (unhide RT) ?_ ?_) | go_in)
        · intro c0 l0
          obtain rfl : b = true := (unhide HE).of (fun i => by
            by_cases wf : (Lit.int .i64 i).wf = true
            · exact (unhide LZ) i wf (l0 i)
            · refine sumI_none i ps (fun p hp e => wf ?_)
              obtain ⟨j, hj, rfl⟩ := mem_getD hp
              obtain ⟨r1, r2, _⟩ := (unhide HF).2 j hj
              rw [← e]
              exact (wf_no r1 r2).2)
          clear l0
          go_wp2
          go_ret
          exact ⟨rfl, unhide B0⟩
        · intro i w2 left2 cnt2 wi l2 rt2 lt2 g2 s2 hen
          have RT2 := hide rt2
          have L2 := hide l2
          have ML := hide (show w2.rangeLeft w.heap.size R < wr.rangeLeft w.heap.size R by rw [rt2.left_eq, (unhide RT).left_eq]; exact lt2)
          have B2 := hide ((unhide B0).grown g2 (unhide B0).size (fun j hj => by cases hj; exact hRl))
          clear rt2 l2 lt2 g2
          generalize hv : sumI ps i = v at hen ⊢
          have HV := hide hv
          clear hv
          by_cases v0 : v = 0
          · subst v0
            go_wp2
            go_roundw
            case rel =>
              refine ⟨left2, cnt2, RT2, hide (fun j wj hj => ?_), B2⟩
              rcases (unhide L2) j hj with q | q
              · exact (unhide LZ) j wj q
              · rw [q]; exact unhide HV
            case measure => exact unhide ML
          · have v0b : (v == 0) = false := by simpa using v0
            obtain rfl : b = false := (unhide HE).not (fun r => v0 (by rw [← unhide HV]; exact r i))
            go_wp2
            go_ret
            exact ⟨rfl, unhide B2⟩

set_option maxRecDepth 100000 in
theorem sRight (w : World) (g n cap : Nat) (ps : List T3) (ok : Bool) (hl : ps.length = n) (h20 : n ≤ 1048576) (h : At3 w g ps) (hok : Says ok (Formed ps)) :
    Calls Try.prog 47 #[.slice (some ⟨g, 0, none⟩) n cap] w fun e w' => e = .returned (.bool ok) ∧ w' = w := by
  by_cases nn : (160 : Int) < (n : Int)
  · obtain rfl : ok = false := hok.not (fun r => by have := r.1; omega)
    clear hok h
    go_enter Try.func47, Try.ntmps47
    go_wp2
    go_ret
    exact ⟨rfl, rfl⟩
  have H := hide h
  clear h
  go_enter Try.func47, Try.ntmps47
  go_wp2
  go_loop [3] (fun i => ∃ (k : Nat), k ≤ n ∧ i = .int .i64 k ∧ Hid (∀ i, i < k → LegOk ps i)) (fun i => n - (intOf i).toNat)
  case atStart => exact ⟨0, by omega, rfl, hide (fun i hi => absurd hi (by omega))⟩
  case round =>
    obtain ⟨k, hk, rfl, HG⟩ := hrel
    by_cases t : k < n
    · obtain ⟨e1, e2, e3⟩ := (unhide H) k (by omega)
      obtain ⟨b1, B1⟩ := says_of (NoOk (el3 ps k).1)
      obtain ⟨b2, B2⟩ := says_of (NoOk (el3 ps k).2.1)
      obtain ⟨b3, B3⟩ := says_of (Amt (el3 ps k).2.2)
      have ROW := hide (show LegOk ps k ↔ (b1 = true) ∧ (b2 = true) ∧ (b3 = true) from by unfold Says at B1 B2 B3; rw [B1, B2, B3]; exact Iff.rfl)
      have BAD := hide (show ¬ LegOk ps k → ok = false from fun hr => hok.not (fun r => hr (r.2 k (by omega))))
      have GOOD := hide (show LegOk ps k → ∀ i, i < k + 1 → LegOk ps i from fun hr i hi => by
        by_cases e : i = k
        · subst e; exact hr
        · exact (unhide HG) i (by omega))
      generalize (el3 ps k).1 = x at *
      generalize (el3 ps k).2.1 = y at *
      generalize (el3 ps k).2.2 = z at *
      cases b1
      · have OKF := hide ((unhide BAD) (fun hr => by have := (unhide ROW).1 hr; cases this.1))
        clear BAD GOOD ROW
        go_wp2_with (first | (go_at_call 33; refine (sNo x false _ B1).mono ?_; rintro e w1 ⟨rfl, rfl⟩))
        go_ret
        exact ⟨by rw [unhide OKF]; rfl, rfl⟩
      · cases b2
        · have OKF := hide ((unhide BAD) (fun hr => by have := (unhide ROW).1 hr; cases this.2.1))
          clear BAD GOOD ROW
          go_wp2_with (first | (go_at_call 33; refine (sNo x true _ B1).mono ?_; rintro e w1 ⟨rfl, rfl⟩) | (go_at_call 33; refine (sNo y false _ B2).mono ?_; rintro e w1 ⟨rfl, rfl⟩))
          go_ret
          exact ⟨by rw [unhide OKF]; rfl, rfl⟩
        · cases b3
          · have OKF := hide ((unhide BAD) (fun hr => by have := (unhide ROW).1 hr; cases this.2.2))
            clear BAD GOOD ROW
            go_wp2_with (first | (go_at_call 33; refine (sNo x true _ B1).mono ?_; rintro e w1 ⟨rfl, rfl⟩) | (go_at_call 33; refine (sNo y true _ B2).mono ?_; rintro e w1 ⟨rfl, rfl⟩) | (go_at_call 34; refine (sAmt z false _ B3).mono ?_; rintro e w1 ⟨rfl, rfl⟩))
            go_ret
            exact ⟨by rw [unhide OKF]; rfl, rfl⟩
          · have GO := hide ((unhide GOOD) ((unhide ROW).2 ⟨rfl, rfl, rfl⟩))
            clear BAD GOOD ROW
            go_wp2_with (first | (go_at_call 33; refine (sNo x true _ B1).mono ?_; rintro e w1 ⟨rfl, rfl⟩) | (go_at_call 33; refine (sNo y true _ B2).mono ?_; rintro e w1 ⟨rfl, rfl⟩) | (go_at_call 34; refine (sAmt z true _ B3).mono ?_; rintro e w1 ⟨rfl, rfl⟩))
            go_round
            case rel => exact ⟨k + 1, by omega, by go_num, GO⟩
            case measure => simp [intOf]; omega
    · obtain rfl : k = n := by omega
      obtain rfl : ok = true := hok.of ⟨by omega, by rw [hl]; exact unhide HG⟩
      clear hok
      go_wp2
      go_ret
      exact ⟨rfl, rfl⟩

theorem at_drewN {w : World} {g : Nat} {ps : List T3} (h : At3 w g ps) (m : Nat) : At3 (w.drewN m) g ps := h

set_option maxRecDepth 100000 in
set_option maxHeartbeats 2000000 in
theorem sLegsOk (w : World) (g n cap : Nat) (ps : List T3) (ok : Bool) (hl : ps.length = n) (h20 : n ≤ 1048576) (h : At3 w g ps) (hok : Says ok (Formed ps ∧ Even ps)) :
    Calls Try.prog 23 #[.slice (some ⟨g, 0, none⟩) n cap] w fun e w' => e = .returned (.bool ok) ∧ ∃ q, w' = w.drewN q := by
  obtain ⟨f, F⟩ := says_of (Formed ps)
  have H := hide h
  clear h
  go_enter Try.func23, Try.ntmps23
  go_wp2_with fail
  refine (sRight _ g n cap ps f hl h20 (unhide H) F).mono ?_
  rintro e w1 ⟨rfl, rfl⟩
  cases f
  · obtain rfl : ok = false := hok.not (fun r => F.no r.1)
    go_wp2
    go_ret
    exact ⟨rfl, 0, rfl⟩
  have h160 : n ≤ 160 := by have := F.yes.1; omega
  have RB := hide (fun i k hk => sum_near (ps := ps) i F.yes.1 (fun j hj => (F.yes.2 j hj).2.2) k hk)
  go_wp2
  go_loopw [3, 4, 5] (fun i _ _ wr => ∃ (k : Nat), k ≤ n ∧ i = .int .i64 k ∧ At3 wr g ps ∧ Hid (∃ q, wr = w1.drewN q) ∧ Hid (∀ i, i < k → sumI ps (el3 ps i).2.1 = 0)) (fun i _ _ _ => n - (intOf i).toNat)
  case atStart => exact ⟨0, by omega, rfl, unhide H, hide ⟨0, rfl⟩, hide (fun i hi => absurd hi (by omega))⟩
  case round =>
    obtain ⟨k, hk, rfl, hA, HQ, HG⟩ := hrel
    have HA := hide hA
    clear hA
    by_cases t : k < n
    · go_wp2
      go_loopw [4, 5] (fun s j wr => ∃ (m : Nat), m ≤ n ∧ j = .int .i64 m ∧ s = .int .i64 (sumI (ps.take m) (el3 ps k).2.1) ∧ At3 wr g ps ∧ Hid (∃ q, wr = w1.drewN q)) (fun _ j _ => n - (intOf j).toNat)
      case atStart => exact ⟨0, by omega, rfl, rfl, unhide HA, HQ⟩
      case round =>
        clear HA HQ
        obtain ⟨m, hm, rfl, rfl, hA, HQ⟩ := hrel
        by_cases tm : m < n
        · obtain ⟨e1, e2, e3⟩ := hA m (by omega)
          have d2 := (hA k (by omega)).2.1
          have HA := hide hA
          clear hA
          have SN := hide (sumI_next (ps := ps) (k := m) (by omega) (el3 ps k).2.1)
          have R1 := hide ((unhide RB) (el3 ps k).2.1 (m + 1) (by omega))
          rw [unhide SN] at R1
          generalize sumI (ps.take m) (el3 ps k).2.1 = S at *
          generalize (el3 ps k).2.1 = v at *
          generalize (el3 ps m).1 = x at *
          generalize (el3 ps m).2.1 = y at *
          generalize (el3 ps m).2.2 = z at *
          by_cases c1 : y = v
          · rw [if_pos c1] at SN R1
            have R2 := unhide R1
            have wr1 : IntKind.i64.wrap (S + z) = S + z := by rw [IntKind.wrap_i64]; omega
            clear R2
            subst c1
            go_wp2_with fail
            go_quiet (fail)
            go_wp2
            go_roundw
            case rel => exact ⟨m + 1, by omega, by go_num, by rw [unhide SN], at_drewN (unhide HA) _, hide (drewN_more (unhide HQ) _)⟩
            case measure => simp [intOf]; omega
          · rw [if_neg c1] at SN R1
            have c1b : (y == v) = false := by simpa using c1
            have SN := hide ((unhide SN).trans (Int.add_zero S))
            go_wp2_with fail
            go_quiet (fail)
            go_wp2
            go_roundw
            case rel => exact ⟨m + 1, by omega, by go_num, by rw [unhide SN], at_drewN (unhide HA) _, hide (drewN_more (unhide HQ) _)⟩
            case measure => simp [intOf]; omega
        · obtain rfl : m = n := by omega
          have e0 : sumI (ps.take m) (el3 ps k).2.1 = sumI ps (el3 ps k).2.1 := by rw [List.take_of_length_le (by omega)]
          rw [e0]
          clear e0
          have HA := hide hA
          clear hA
          have GO := hide (show sumI ps (el3 ps k).2.1 = 0 → ∀ i, i < k + 1 → sumI ps (el3 ps i).2.1 = 0 from fun hr i hi => by
            by_cases e : i = k
            · subst e; exact hr
            · exact (unhide HG) i (by omega))
          have BAD := hide (show sumI ps (el3 ps k).2.1 ≠ 0 → ok = false from fun hr => hok.not (fun r => hr (r.2 _)))
          generalize sumI ps (el3 ps k).2.1 = S at *
          by_cases s0 : S = 0
          · have G := hide ((unhide GO) s0)
            clear GO BAD
            subst s0
            go_wp2
            go_roundw
            case rel => exact ⟨k + 1, by omega, by go_num, unhide HA, HQ, G⟩
            case measure => simp [intOf]; omega
          · have OKF := hide ((unhide BAD) s0)
            have s0b : (S == 0) = false := by simpa using s0
            clear GO BAD
            go_wp2
            go_ret
            exact ⟨by rw [unhide OKF]; rfl, unhide HQ⟩
    · obtain rfl : k = n := by omega
      obtain rfl : ok = true := hok.of ⟨F.yes, even_of (by rw [hl]; exact unhide HG)⟩
      go_wp2
      go_ret
      exact ⟨rfl, unhide HQ⟩

set_option maxRecDepth 100000 in
theorem iFormed (w : World) (g n cap : Nat) (ps : List T3) (ok : Bool) (hl : ps.length = n) (h20 : n ≤ 1048576) (hg : g < w.heap.size) (h : At3 w g ps) (hok : Says ok (Formed ps)) :
    Calls Try.prog 49 #[.slice (some ⟨g, 0, none⟩) n cap] w fun e w' => e = .returned (.bool ok) ∧ Below w.heap.size w w' := by
  by_cases nn : (160 : Int) < (n : Int)
  · obtain rfl : ok = false := hok.not (fun r => by have := r.1; omega)
    clear hok h
    go_enter Try.func49, Try.ntmps49
    go_wp2
    go_ret
    exact ⟨rfl, Below.refl _ _⟩
  have H := hide h
  clear h
  go_enter Try.func49, Try.ntmps49
  go_wp2
  go_loopw [4, 10] (fun _ i wr => ∃ (k : Nat), k ≤ n ∧ i = .int .i64 k ∧ Below w.heap.size w wr ∧ Hid (∀ i, i < k → LegOk ps i)) (fun _ i _ => n - (intOf i).toNat)
  case atStart => exact ⟨0, by omega, rfl, Below.refl _ _, hide (fun i hi => absurd hi (by omega))⟩
  case round =>
    obtain ⟨k, hk, rfl, hb, HG⟩ := hrel
    by_cases t : k < n
    · obtain ⟨e1, e2, e3⟩ := (unhide H).below hb hg k (by omega)
      have HB := hide hb
      clear hb
      obtain ⟨b1, B1⟩ := says_of (NoOk (el3 ps k).1 ∧ NoOk (el3 ps k).2.1)
      obtain ⟨b3, B3⟩ := says_of (Amt (el3 ps k).2.2)
      have ROW := hide (show LegOk ps k ↔ (b1 = true) ∧ (b3 = true) from by unfold Says at B1 B3; rw [B1, B3]; unfold LegOk; rw [and_assoc])
      have BAD := hide (show ¬ LegOk ps k → ok = false from fun hr => hok.not (fun r => hr (r.2 k (by omega))))
      have GOOD := hide (show LegOk ps k → ∀ i, i < k + 1 → LegOk ps i from fun hr i hi => by
        by_cases e : i = k
        · subst e; exact hr
        · exact (unhide HG) i (by omega))
      generalize (el3 ps k).1 = x at *
      generalize (el3 ps k).2.1 = y at *
      generalize (el3 ps k).2.2 = z at *
      go_wp2_with fail
      refine (keyOk x y b1 _ B1).mono ?_
      rintro e w1 ⟨rfl, n1⟩
      have nb := next (one_more wr (.cells #[.int .i64 x, .int .i64 y, .int .i64 z] 71)) n1
      have f2 : w1.cell? ⟨wr.heap.size, 2, none⟩ = some (.int .i64 z) := (n1.cell (p := ⟨wr.heap.size, 2, none⟩) (by simp)).trans (by simp)
      have NB := hide (next (unhide HB) nb)
      clear n1 nb e1 e2 e3
      cases b1
      · have OKF := hide ((unhide BAD) (fun hr => by have := (unhide ROW).1 hr; cases this.1))
        clear BAD GOOD ROW
        go_wp2
        go_ret
        exact ⟨by rw [unhide OKF]; rfl, unhide NB⟩
      · go_wp2_with fail
        refine (iAmt z b3 _ B3).mono ?_
        rintro e w2 ⟨rfl, rfl⟩
        cases b3
        · have OKF := hide ((unhide BAD) (fun hr => by have := (unhide ROW).1 hr; cases this.2))
          clear BAD GOOD ROW
          go_wp2
          go_ret
          exact ⟨by rw [unhide OKF]; rfl, unhide NB⟩
        · have GO := hide ((unhide GOOD) ((unhide ROW).2 ⟨by trivial, by trivial⟩))
          clear BAD GOOD ROW
          go_wp2
          go_roundw
          case rel => exact ⟨k + 1, by omega, by go_num, unhide NB, GO⟩
          case measure => simp [intOf]; omega
    · obtain rfl : k = n := by omega
      obtain rfl : ok = true := hok.of ⟨by omega, by rw [hl]; exact unhide HG⟩
      have HB := hide hb
      clear hb hok
      go_wp2
      go_ret
      exact ⟨rfl, unhide HB⟩

set_option maxRecDepth 100000 in
theorem iLegsOk (w : World) (g n cap : Nat) (ps : List T3) (ok : Bool) (hl : ps.length = n) (h20 : n ≤ 1048576) (hg : g < w.heap.size) (h : At3 w g ps) (hok : Says ok (Formed ps ∧ Even ps)) :
    Calls Try.prog 25 #[.slice (some ⟨g, 0, none⟩) n cap] w fun e w' => e = .returned (.bool ok) ∧ Below w.heap.size w w' := by
  obtain ⟨f, F⟩ := says_of (Formed ps)
  have H := hide h
  clear h
  go_enter Try.func25, Try.ntmps25
  go_wp2_with fail
  refine (iFormed _ g n cap ps f hl h20 hg (unhide H) F).mono ?_
  rintro e w1 ⟨rfl, b1⟩
  have A1 := hide ((unhide H).below b1 hg)
  have s1 := b1.size
  have B1 := hide b1
  clear b1
  cases f
  · obtain rfl : ok = false := hok.not (fun r => F.no r.1)
    go_wp2
    go_ret
    exact ⟨rfl, unhide B1⟩
  · have E : Says ok (Even ps) := ⟨fun e => (hok.1 e).2, fun e => hok.2 ⟨F.yes, e⟩⟩
    go_wp2_with fail
    refine (iEven _ g n cap ps ok hl (by omega) (unhide A1) F.yes E).mono ?_
    rintro e w2 ⟨rfl, b2⟩
    have B2 := hide (next (unhide B1) b2)
    clear b2
    cases ok
    · go_wp2
      go_ret
      exact ⟨rfl, unhide B2⟩
    · go_wp2
      go_ret
      exact ⟨rfl, unhide B2⟩

end Go.Proofs.Ytiecflifopmmoaa.Legs
