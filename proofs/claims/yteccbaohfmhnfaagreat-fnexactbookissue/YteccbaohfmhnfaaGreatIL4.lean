/- Texts of one proof, one behind the other: SBals, Legs, BalApp, SPut3, Lay, Sort3, Out, Post, Entry, ILotsFit, SLots, SBooksOk, IBooksOk. -/
import Derived.Test.YteccbaohfmhnfaaGreatRows
import Derived.Test.YteccbaohfmhnfaaGreatIA1
import Derived.Test.YteccbaohfmhnfaaGreatIA2
import Derived.Test.YteccbaohfmhnfaaGreatIL3
import Derived.Maps.AppendAt
import Derived.Shelf.SlGeneric
import Derived.Shelf.SlSortCmp.WholeK
import Derived.Ground.SlsfProg
import Derived.WideKeyEntry
import Derived.Deep.RegionHeld3
set_option linter.unusedVariables false
set_option linter.unusedSimpArgs false
namespace Go.Proofs.YteccbaohfmhnfaaGreat.SBals
open Go.ChangeShapes Go.WideShapes Go.ChangeAt Go.RowKit BMem Bks IRead IHave ITrade ILists IBalsFit
open Lots (Says says_of NoOk)
open Bals (T3 el3 val sumI)
/-- The kind of an account. -/
theorem sKindA (w : World) (x : Bx) (no r : Int) (h : Rd w x) (hr : Chart.Right 20 4 x.b.ac) (hk : kindOf x.b.ac no = r) :
    Calls Tryz.prog 19 #[.slice (some ⟨x.ga, 0, none⟩) x.b.ac.length x.ca, .int .i64 no] w fun e w' => e = .returned (.int .i64 r) ∧ Below w.heap.size w w' :=
  (AccountSOk.sKind w x.ga _ x.ca x.b.ac no rfl h.na h.ra).mono fun e w' ⟨r', h1, h2, q, h3⟩ => ⟨by rw [h2, kind_is hr h1, hk], by rw [h3]; exact below_drewN (Below.refl _ _) q⟩
theorem sKindI (w : World) (x : Bx) (no r : Int) (h : Rd w x) (hr : Chart.Right 8 2 x.b.ic) (hk : kindOf x.b.ic no = r) :
    Calls Tryz.prog 20 #[.slice (some ⟨x.gi, 0, none⟩) x.b.ic.length x.ci, .int .i64 no] w fun e w' => e = .returned (.int .i64 r) ∧ Below w.heap.size w w' :=
  (InstrSOk.sKind w x.gi _ x.ci x.b.ic no rfl h.ni h.ri).mono fun e w' ⟨r', h1, h2, q, h3⟩ => ⟨by rw [h2, kind_is hr h1, hk], by rw [h3]; exact below_drewN (Below.refl _ _) q⟩
set_option maxRecDepth 100000 in
set_option maxHeartbeats 4000000 in
theorem sBals (w : World) (x : Bx) (b : Bool) (h : Rd w x) (hl : Lists x.b) (hb : Says b (BalsFit x.b)) :
    Calls Tryz.prog 56 #[.agg #[.slice (some ⟨x.ga, 0, none⟩) x.b.ac.length x.ca, .slice (some ⟨x.gi, 0, none⟩) x.b.ic.length x.ci, .slice (some ⟨x.gb, 0, none⟩) x.b.bs.length x.cb, .slice (some ⟨x.gl, 0, none⟩) x.b.ls.length x.cl, .slice (some ⟨x.gt, 0, none⟩) x.b.ts.length x.ct, .int .i64 x.b.lot]] w fun e w' => e = .returned (.bool b) ∧ Below w.heap.size w w' := by
  have T := hide hb
  have L := hide hl
  have S0 := hide (St.start h 36)
  have nb := h.nb
  clear hb hl h
  go_enter Tryz.func56, Tryz.ntmps56
  go_wp2
  go_loopw [3] (fun i wr => ∃ (k : Nat), k ≤ x.b.bs.length ∧ i = .int .i64 k ∧ St w wr x ∧ Hid (∀ j, j < k → BalFit x.b (el3 x.b.bs j) ∧ sumI x.b.bs (el3 x.b.bs j).2.1 = 0)) (fun i _ => x.b.bs.length - (intOf i).toNat)
  case atStart => exact ⟨0, by omega, rfl, unhide S0, hide (fun i hi => absurd hi (by omega))⟩
  case round =>
    obtain ⟨k, hk, rfl, hS, HG⟩ := hrel
    clear S0
    by_cases t : k < x.b.bs.length
    · obtain ⟨d0, d1, d2⟩ := (hS.r.rb k t)
      obtain ⟨c0, c1, c2, c3, c4, c5⟩ := hS.c
      have BAD := hide (show ¬ (BalFit x.b (el3 x.b.bs k) ∧ sumI x.b.bs (el3 x.b.bs k).2.1 = 0) → b = false from fun hr => (unhide T).not (fun r => hr ⟨r.1 k t, r.2 _⟩))
      have GOOD := hide (show (BalFit x.b (el3 x.b.bs k) ∧ sumI x.b.bs (el3 x.b.bs k).2.1 = 0) → ∀ i, i < k + 1 → BalFit x.b (el3 x.b.bs i) ∧ sumI x.b.bs (el3 x.b.bs i).2.1 = 0 from fun hr i hi => by
        by_cases e : i = k
        · subst e; exact hr
        · exact (unhide HG) i (by omega))
      have FIT := hide (show BalFit x.b (el3 x.b.bs k) ↔ kindOf x.b.ac (el3 x.b.bs k).1 ≠ 0 ∧ kindOf x.b.ic (el3 x.b.bs k).2.1 ≠ 0 ∧ ¬ (kindOf x.b.ac (el3 x.b.bs k).1 = 1 ∧ (el3 x.b.bs k).2.2 < 0) from Iff.rfl)
      have wz := hS.s
      have S1 := hide (hS.step (one_more wr (.cells #[.int .i64 (el3 x.b.bs k).1, .int .i64 (el3 x.b.bs k).2.1, .int .i64 (el3 x.b.bs k).2.2] 102)))
      clear hS
      generalize BalFit x.b (el3 x.b.bs k) = FP at *
      generalize (el3 x.b.bs k).1 = y0 at *
      generalize (el3 x.b.bs k).2.1 = y1 at *
      generalize (el3 x.b.bs k).2.2 = y2 at *
      generalize hK : kindOf x.b.ac y0 = K at *
      generalize hJ : kindOf x.b.ic y1 = J at *
      have HK := hide hK
      have HJ := hide hJ
      clear hK hJ
      go_wp2_with fail
      refine (sKindA _ x y0 K (unhide S1).r (unhide L).1 (unhide HK)).mono ?_
      rintro e w1 ⟨rfl, bb⟩
      have S2 := hide ((unhide S1).step bb)
      have f0 : w1.cell? ⟨wr.heap.size, 0, none⟩ = some (.int .i64 y0) := (bb.cell (p := ⟨wr.heap.size, 0, none⟩) (by simp)).trans (by simp)
      have f1 : w1.cell? ⟨wr.heap.size, 1, none⟩ = some (.int .i64 y1) := (bb.cell (p := ⟨wr.heap.size, 1, none⟩) (by simp)).trans (by simp)
      have f2 : w1.cell? ⟨wr.heap.size, 2, none⟩ = some (.int .i64 y2) := (bb.cell (p := ⟨wr.heap.size, 2, none⟩) (by simp)).trans (by simp)
      have z1 : wr.heap.size < w1.heap.size := by have := bb.size; simp at this; omega
      clear bb c0 c1 c2 c3 c4 c5 d0 d1 d2
      obtain ⟨c0, c1, c2, c3, c4, c5⟩ := (unhide S2).c
      by_cases q0 : K = 0
      · have F := hide ((unhide BAD) (fun hh => ((unhide FIT).1 hh.1).1 q0))
        have hq : (K == 0) = true := by simp [q0]
        clear BAD GOOD FIT T q0
        go_wp2
        go_ret
        exact ⟨by rw [unhide F]; rfl, (unhide S2).b⟩
      have hq0 : (K == 0) = false := by simp [q0]
      have Q0 := hide q0
      clear q0
      go_wp2_with fail
      refine (sKindI _ x y1 J (unhide S2).r (unhide L).2.1 (unhide HJ)).mono ?_
      rintro e w2 ⟨rfl, bb⟩
      have S3 := hide ((unhide S2).step bb)
      replace f0 : w2.cell? ⟨wr.heap.size, 0, none⟩ = some (.int .i64 y0) := (bb.cell (p := ⟨wr.heap.size, 0, none⟩) z1).trans f0
      replace f1 : w2.cell? ⟨wr.heap.size, 1, none⟩ = some (.int .i64 y1) := (bb.cell (p := ⟨wr.heap.size, 1, none⟩) z1).trans f1
      replace f2 : w2.cell? ⟨wr.heap.size, 2, none⟩ = some (.int .i64 y2) := (bb.cell (p := ⟨wr.heap.size, 2, none⟩) z1).trans f2
      have z2 : wr.heap.size < w2.heap.size := Nat.lt_of_lt_of_le z1 bb.size
      clear bb c0 c1 c2 c3 c4 c5
      obtain ⟨c0, c1, c2, c3, c4, c5⟩ := (unhide S3).c
      by_cases q1 : J = 0
      · have F := hide ((unhide BAD) (fun hh => ((unhide FIT).1 hh.1).2.1 q1))
        have hq : (J == 0) = true := by simp [q1]
        clear BAD GOOD FIT T q1
        go_wp2
        go_ret
        exact ⟨by rw [unhide F]; rfl, (unhide S3).b⟩
      have hq1 : (J == 0) = false := by simp [q1]
      have Q1 := hide q1
      clear q1
      by_cases q2 : K = 1
      · have hq2 : (K == 1) = true := by simp [q2]
        by_cases q3 : y2 < 0
        · have F := hide ((unhide BAD) (fun hh => ((unhide FIT).1 hh.1).2.2 ⟨q2, q3⟩))
          clear BAD GOOD FIT T q2
          go_wp2
          go_ret
          exact ⟨by rw [unhide F]; rfl, (unhide S3).b⟩
        have FP' := hide ((unhide FIT).2 ⟨unhide Q0, unhide Q1, fun r => q3 r.2⟩)
        have hq3 : decide (y2 < 0) = false := decide_eq_false q3
        clear q2 q3 FIT
        obtain ⟨r, c, hs⟩ := Look.sum_is x.b.bs y1
        have Z := hide (sum_zero (unhide L).2.2.1 hs)
        have HS := hide hs
        clear hs
        go_wp2_with fail
        refine (Look.sSum _ x.gb _ x.cb x.b.bs y1 r c rfl nb (unhide S3).r.lb (unhide S3).r.rb (unhide HS)).mono ?_
        rintro e w3 ⟨rfl, bb⟩
        have S4 := hide ((unhide S3).step bb)
        clear bb c0 c1 c2 c3 c4 c5 f0 f1 f2
        cases c
        · have F := hide ((unhide BAD) (fun e => by have := (unhide Z).2 e.2; cases this.1))
          clear BAD GOOD T
          go_wp2
          go_ret
          exact ⟨by rw [unhide F]; rfl, (unhide S4).b⟩
        by_cases q : r = 0
        · have G := hide ((unhide GOOD) ⟨unhide FP', (unhide Z).1 ⟨rfl, q⟩⟩)
          have hq : (r != 0) = false := by simp [q]
          clear BAD GOOD q
          go_wp2
          go_roundw
          case rel => exact ⟨k + 1, by omega, by go_num, unhide S4, G⟩
          case measure => simp [intOf]; omega
        · have F := hide ((unhide BAD) (fun e => q ((unhide Z).2 e.2).2))
          have hq : (r != 0) = true := by simp [q]
          clear BAD GOOD T q
          go_wp2
          go_ret
          exact ⟨by rw [unhide F]; rfl, (unhide S4).b⟩
      · have hq2 : (K == 1) = false := by simp [q2]
        have FP' := hide ((unhide FIT).2 ⟨unhide Q0, unhide Q1, fun r => q2 r.1⟩)
        clear q2 FIT
        obtain ⟨r, c, hs⟩ := Look.sum_is x.b.bs y1
        have Z := hide (sum_zero (unhide L).2.2.1 hs)
        have HS := hide hs
        clear hs
        go_wp2_with fail
        refine (Look.sSum _ x.gb _ x.cb x.b.bs y1 r c rfl nb (unhide S3).r.lb (unhide S3).r.rb (unhide HS)).mono ?_
        rintro e w3 ⟨rfl, bb⟩
        have S4 := hide ((unhide S3).step bb)
        clear bb c0 c1 c2 c3 c4 c5 f0 f1 f2
        cases c
        · have F := hide ((unhide BAD) (fun e => by have := (unhide Z).2 e.2; cases this.1))
          clear BAD GOOD T
          go_wp2
          go_ret
          exact ⟨by rw [unhide F]; rfl, (unhide S4).b⟩
        by_cases q : r = 0
        · have G := hide ((unhide GOOD) ⟨unhide FP', (unhide Z).1 ⟨rfl, q⟩⟩)
          have hq : (r != 0) = false := by simp [q]
          clear BAD GOOD q
          go_wp2
          go_roundw
          case rel => exact ⟨k + 1, by omega, by go_num, unhide S4, G⟩
          case measure => simp [intOf]; omega
        · have F := hide ((unhide BAD) (fun e => q ((unhide Z).2 e.2).2))
          have hq : (r != 0) = true := by simp [q]
          clear BAD GOOD T q
          go_wp2
          go_ret
          exact ⟨by rw [unhide F]; rfl, (unhide S4).b⟩
    · have F := hide ((unhide T).of (bals_spec (fun j hj => (unhide HG) j (by omega))))
      obtain ⟨c0, c1, c2, c3, c4, c5⟩ := hS.c
      have S1 := hide hS
      clear hS
      go_wp2
      go_ret
      exact ⟨by rw [unhide F]; rfl, (unhide S1).b⟩
end Go.Proofs.YteccbaohfmhnfaaGreat.SBals
namespace Go.Proofs.YteccbaohfmhnfaaGreat.Legs
open Go.ChangeShapes Go.WideShapes Go.ChangeAt Go.RowKit Bals Triples Cmp SOk3 IOk3 Tab Look
/-- Block B is a table by number that tells g. -/
def STab (w : World) (B n : Nat) (g : Int → Int) : Prop := ∃ D : D0, w.ownsMap Tryz.prog 3 (plainElem Tryz.prog 3) B n D ∧ ∀ i, (Lit.int .i64 i).wf = true → D.atKey (.int .i64 i) (.lit (.int .i64 0)) = .lit (.int .i64 (g i))
theorem stab_made (w : World) : STab (w.alloc (.map #[] 0)) w.heap.size 0 (fun _ => 0) := ⟨.map [], World.ownsMap_made _ _ _ _, fun i h => rfl⟩
theorem STab.kept {w w' : World} {B n : Nat} {f : Int → Int} {row : Option Nat} (h : STab w B n f) (hg : w.grownBy w' row) (hne : some B ≠ row) : STab w' B n f := by
  obtain ⟨D, h1, h2⟩ := h
  exact ⟨D, h1.kept hg hne, h2⟩
theorem STab.lt {w : World} {B n : Nat} {f : Int → Int} (h : STab w B n f) : B < w.heap.size := by
  obtain ⟨D, h1, _⟩ := h
  exact h1.lt
theorem wps_look (w : World) {ops : Array Oper} {rest : List Oper} {o : Oper} {s : Act} {Q : Exit → Act → World → Prop}
    (hg : o.guard = none) (m x : Operand) (t : TypeId) (hop : o.op = Op.lookup t m x false) (ht : Tryz.prog.underlying t = some (.map 3 3)) (B n : Nat) (f : Int → Int) (hm : s.eval m = .map (some B)) (hown : STab w B n f)
    (i : Int) (hx : s.eval x = .int .i64 i) (hw : (Lit.int .i64 i).wf = true)
    (hK : wpList Tryz.prog ops Q rest (s.put o.dst (.int .i64 (f i))) w) : wpList Tryz.prog ops Q (o :: rest) s w := by
  obtain ⟨D, h1, h2⟩ := hown
  refine wpList_lookup_own_int w hg m x t hop 3 3 .i64 lawI ht Tryz.underlying3 (zero _) B n D hm h1 _ (.int .i64 i) hx (Maps.keyOf_int_mk Tryz.underlying3 hw) ?_
  intro c hat hwc
  rw [h2 i hw] at hat
  have : f i = c := by simpa using hat
  rw [← this]
  exact hK
theorem wps_put (w : World) {ops : Array Oper} {rest : List Oper} {o : Oper} {s : Act} {Q : Exit → Act → World → Prop}
    (hg : o.guard = none) (m x y : Operand) (t : TypeId) (hop : o.op = Op.mapUpdate t m x y) (ht : Tryz.prog.underlying t = some (.map 3 3)) (B n : Nat) (f : Int → Int) (hm : s.eval m = .map (some B)) (hown : STab w B n f) (hn : n ≤ 1048576)
    (i v : Int) (hx : s.eval x = .int .i64 i) (hy : s.eval y = .int .i64 v) (hw : (Lit.int .i64 i).wf = true) (hv : (Lit.int .i64 v).wf = true)
    (hK : ∀ w', STab w' B (n + 1) (fun j => if j = i then v else f j) → w.grownBy w' (some B) → wpList Tryz.prog ops Q rest (s.put o.dst undef) w') : wpList Tryz.prog ops Q (o :: rest) s w := by
  obtain ⟨D, h1, h2⟩ := hown
  refine wpList_mapUpdate_own w hg m x y t hop 3 3 lawI ht _ B n D hm h1 (by unfold maxLen; omega) _ _ (.int .i64 i) hx hy (Maps.keyOf_int_mk Tryz.underlying3 hw) (.lit (.int .i64 v)) [] (plainElem_int Tryz.underlying3 hv) ?_
  intro w' h3 h4
  refine hK w' ⟨_, h3, fun j hj => ?_⟩ h4
  show _ = DataW.lit (Lit.int .i64 (if j = i then v else f j))
  by_cases e : j = i
  · subst e
    rw [if_pos rfl, Maps.atKey_put_same (isMap_of h1) (show WideAt.IsKeyLit (Lit.int .i64 j) from trivial)]
  · rw [if_neg e, Maps.atKey_put_other (fun q => e (by simpa using q)), h2 j hj]
/-- Block B is a table that tells g, block r goes over it; left: the numbers still to come. -/
def RSTab (w : World) (B r n : Nat) (g : Int → Int) (left : Int → Bool) (cnt : Nat) : Prop :=
  ∃ (D : D0) (lf : Lit → Bool), w.ranges Tryz.prog 3 (plainElem Tryz.prog 3) B r n D lf cnt ∧ (∀ i, (Lit.int .i64 i).wf = true → D.atKey (.int .i64 i) (.lit (.int .i64 0)) = .lit (.int .i64 (g i))) ∧ ∀ i, left i = lf (.int .i64 i)
theorem RSTab.left_eq {w : World} {B r n : Nat} {f : Int → Int} {left : Int → Bool} {cnt : Nat} (h : RSTab w B r n f left cnt) : w.rangeLeft B r = cnt := by
  obtain ⟨D, lf, h1, _⟩ := h
  exact h1.left_eq
theorem wps_range (w : World) {ops : Array Oper} {rest : List Oper} {o : Oper} {s : Act} {Q : Exit → Act → World → Prop}
    (hg : o.guard = none) (m : Operand) (t : TypeId) (hop : o.op = Op.range t m) (ht : Tryz.prog.underlying t = some (.map 3 3)) (B n : Nat) (f : Int → Int) (hm : s.eval m = .map (some B)) (hown : STab w B n f)
    (hK : ∀ w' left cnt, RSTab w' B w.heap.size n f left cnt → (∀ i, (Lit.int .i64 i).wf = true → left i = false → f i = 0) → w.grownBy w' none → w'.heap.size = w.heap.size + 1 → wpList Tryz.prog ops Q rest (s.put o.dst (.pointer (some ⟨w.heap.size, 0, none⟩))) w') : wpList Tryz.prog ops Q (o :: rest) s w := by
  obtain ⟨D, h1, h2⟩ := hown
  refine wpList_range_own w hg m t hop 3 3 lawI ht _ B n D hm h1 ?_
  intro w' h3 h4 h5
  refine hK w' (fun i => Maps.has D (.int .i64 i)) (Maps.size D) ⟨D, Maps.has D, h3, h2, fun i => rfl⟩ ?_ h4 h5
  intro i hw nh
  have e := h2 i hw
  rw [Maps.atKey_of_not_has nh] at e
  have : (0 : Int) = f i := by simpa using e
  exact this.symm
theorem wps_next (w : World) {ops : Array Oper} {rest : List Oper} {o : Oper} {s : Act} {Q : Exit → Act → World → Prop}
    (hg : o.guard = none) (it : Operand) (hop : o.op = Op.next it false) (B r n : Nat) (f : Int → Int) (left : Int → Bool) (cnt : Nat) (hit : s.eval it = .pointer (some ⟨r, 0, none⟩)) (h : RSTab w B r n f left cnt)
    (hDone : cnt = 0 → (∀ i, left i = false) → wpList Tryz.prog ops Q rest (s.put o.dst (.tuple #[.bool false])) w)
    (hMore : ∀ (i : Int) (w' : World) (left' : Int → Bool) (cnt' : Nat), (Lit.int .i64 i).wf = true → (∀ j, left' j = false → left j = false ∨ j = i) → RSTab w' B r n f left' cnt' → cnt' < cnt → w.grownBy w' (some r) → w'.heap.size = w.heap.size →
      (Instr.entry (.pointer (some ⟨r, 0, none⟩))).run Tryz.prog w' = .ok (.tuple #[.int .i64 i, .int .i64 (f i)]) w' → wpList Tryz.prog ops Q rest (s.put o.dst (.tuple #[.bool true, .int .i64 i, .int .i64 (f i)])) w') :
    wpList Tryz.prog ops Q (o :: rest) s w := by
  obtain ⟨D, lf, h1, h2, h3⟩ := h
  refine wpList_next_ranges_ii w hg it hop 3 3 .i64 .i64 lawI Tryz.underlying3 Tryz.underlying3 B r n D lf cnt hit h1 ?_ ?_
  · intro h4 h5
    exact hDone h4 (fun i => by rw [h3 i, h5])
  · intro x c w' cnt' hwx hwc hlx hat hrg hlt hgr hsz hen
    have ef : f x = c := by
      have := h2 x hwx
      rw [hat] at this
      simpa using this.symm
    subst ef
    refine hMore x w' (fun j => lf (.int .i64 j) && !(Lit.int .i64 j).sameKey (.int .i64 x)) cnt' hwx (fun j hj => ?_) ⟨D, _, hrg, h2, fun j => rfl⟩ hlt hgr hsz hen
    rw [h3 j]
    by_cases q : j = x
    · exact .inr q
    · rw [Maps.sameKey_ne (fun e => q (by simpa using e))] at hj
      exact .inl (by simpa using hj)
set_option maxRecDepth 100000 in
set_option maxHeartbeats 1000000 in
theorem iEven (w : World) (g n cap : Nat) (ps : List T3) (b : Bool) (hl : ps.length = n) (hg : g < w.heap.size) (h : At3 w g ps) (hf : Formed ps) (hb : Says b (Even ps)) :
    Calls Tryz.prog 145 #[.slice (some ⟨g, 0, none⟩) n cap] w fun e w' => e = .returned (.bool b) ∧ Below w.heap.size w w' := by
  have h160 : n ≤ 160 := by have := hf.1; omega
  have H := hide h
  have HF := hide hf
  have HE := hide hb
  clear h hf hb
  have RB := hide (fun i k hk => sum_near (ps := ps) i (unhide HF).1 (fun j hj => ((unhide HF).2 j hj).2.2) k hk)
  have hmm := @run_makeMap Tryz.prog
  go_enter Tryz.func145, Tryz.ntmps145
  go_wp2
  go_loopw [5, 11] (fun _ j wr => ∃ (k : Nat), k ≤ n ∧ j = .int .i64 k ∧ STab wr w.heap.size k (sumI (ps.take k)) ∧ Below w.heap.size w wr) (fun _ j _ => n - (intOf j).toNat)
  case atStart => exact ⟨0, by omega, rfl, stab_made w, (Below.refl _ _).alloc (Nat.le_refl _) _⟩
  case round =>
    obtain ⟨k, hk, rfl, ht, hb⟩ := hrel
    by_cases t : k < n
    · obtain ⟨e1, e2, e3⟩ := (unhide H).below hb hg k (by omega)
      have SN := hide (fun i => sumI_next (ps := ps) (k := k) (by omega) i)
      have R1 := (unhide RB) (el3 ps k).2.1 (k + 1) (by omega)
      rw [unhide SN, if_pos rfl] at R1
      obtain ⟨r1, r2, r3⟩ := (unhide HF).2 k (by omega)
      have WI := (wf_no r1 r2).2
      have bl := ht.lt
      have HB := hide hb
      have t1 := ht.kept (World.grownBy_alloc wr (.cells #[.int .i64 (el3 ps k).1, .int .i64 (el3 ps k).2.1, .int .i64 (el3 ps k).2.2] 93) none) (by simp)
      have HT := hide t1
      clear hb ht r1 r2 r3 t1
      generalize (el3 ps k).1 = x at *
      generalize (el3 ps k).2.1 = y at *
      generalize (el3 ps k).2.2 = z at *
      have wr1 : IntKind.i64.wrap (sumI (ps.take k) y + z) = sumI (ps.take k) y + z := by rw [IntKind.wrap_i64]; omega
      have WV : (Lit.int .i64 (sumI (ps.take k) y + z)).wf = true := WalkArith.wf_i64 (by omega)
      have ST := hide (fun (w1 : World) (q : STab w1 w.heap.size (k + 1) (fun j => if j = y then sumI (ps.take k) y + z else sumI (ps.take k) j)) => (show STab w1 w.heap.size (k + 1) (sumI (ps.take (k + 1))) from by
        have e : (fun j => if j = y then sumI (ps.take k) y + z else sumI (ps.take k) j) = sumI (ps.take (k + 1)) := by
          funext j
          rw [unhide SN]
          by_cases q : j = y
          · subst q; rw [if_pos rfl, if_pos rfl]
          · rw [if_neg q, if_neg (fun r => q r.symm), Int.add_zero]
        exact e ▸ q))
      generalize hS : sumI (ps.take k) y = S at *
      have HS := hide hS
      clear hS R1
      go_wp2_with (first | (at_lookup; refine wps_look _ rfl _ _ 174 rfl Tryz.underlying174 w.heap.size k _ rfl (unhide HT) y rfl WI ?_; rw [unhide HS]) | (at_mapUpdate; refine wps_put _ rfl _ _ _ 174 rfl Tryz.underlying174 w.heap.size k _ rfl (unhide HT) (by omega) y (S + z) rfl rfl WI WV ?_; intro w1 t1 g1) | go_in)
      go_roundw
      case rel =>
        refine ⟨k + 1, by omega, by go_num, (unhide ST) w1 t1, ?_⟩
        exact ((unhide HB).alloc (unhide HB).size _).grown g1 (by simp; have := (unhide HB).size; omega) (by simp)
      case measure => simp [intOf]; omega
    · obtain rfl : k = n := by omega
      rw [List.take_of_length_le (by omega)] at ht
      have HT := hide ht
      have HB := hide hb
      have bl := ht.lt
      clear ht hb
      go_wp2_with (first | (at_range; refine wps_range _ rfl _ 174 rfl Tryz.underlying174 w.heap.size k _ rfl (unhide HT) ?_; intro w0 left0 cnt0 rt0 lz0 g0 s0) | go_in)
      go_frame
      have RT := hide rt0
      have LZ := hide lz0
      have B0 := hide (next (unhide HB) (grownBy_below g0))
      have hRl := (unhide HB).size
      clear rt0 lz0 g0
      generalize wr.heap.size = R at *
      go_loopw [7] (fun _ wq => ∃ (left : Int → Bool) (cnt : Nat), Hid (RSTab wq w.heap.size R k (sumI ps) left cnt) ∧ Hid (∀ i, (Lit.int .i64 i).wf = true → left i = false → sumI ps i = 0) ∧ Hid (Below w.heap.size w wq)) (fun _ wq => wq.rangeLeft w.heap.size R)
      case atStart => exact ⟨left0, cnt0, RT, LZ, B0⟩
      case round =>
        clear RT LZ B0
        obtain ⟨left, cnt, RT, LZ, B0⟩ := hrel
        go_wp2_with (first | (at_next; refine wps_next _ rfl _ rfl w.heap.size R k _ left cnt rfl (unhide RT) ?_ ?_) | go_in)
        · intro c0 l0
          obtain rfl : b = true := (unhide HE).of (fun i => by
            by_cases wf : (Lit.int .i64 i).wf = true
            · exact (unhide LZ) i wf (l0 i)
            · refine sumI_none i ps (fun p hp e => wf ?_)
              obtain ⟨j, hj, rfl⟩ := mem_getD hp
              obtain ⟨r1, r2, _⟩ := (unhide HF).2 j hj
              rw [← e]
              exact (wf_no r1 r2).2)
          clear l0
          go_wp2
          go_ret
          exact ⟨rfl, unhide B0⟩
        · intro i w2 left2 cnt2 wi l2 rt2 lt2 g2 s2 hen
          have RT2 := hide rt2
          have L2 := hide l2
          have ML := hide (show w2.rangeLeft w.heap.size R < wr.rangeLeft w.heap.size R by rw [rt2.left_eq, (unhide RT).left_eq]; exact lt2)
          have B2 := hide ((unhide B0).grown g2 (unhide B0).size (fun j hj => by cases hj; exact hRl))
          clear rt2 l2 lt2 g2
          generalize hv : sumI ps i = v at hen ⊢
          have HV := hide hv
          clear hv
          by_cases v0 : v = 0
          · subst v0
            go_wp2
            go_roundw
            case rel =>
              refine ⟨left2, cnt2, RT2, hide (fun j wj hj => ?_), B2⟩
              rcases (unhide L2) j hj with q | q
              · exact (unhide LZ) j wj q
              · rw [q]; exact unhide HV
            case measure => exact unhide ML
          · have v0b : (v == 0) = false := by simpa using v0
            obtain rfl : b = false := (unhide HE).not (fun r => v0 (by rw [← unhide HV]; exact r i))
            go_wp2
            go_ret
            exact ⟨rfl, unhide B2⟩
set_option maxRecDepth 100000 in
theorem sRight (w : World) (g n cap : Nat) (ps : List T3) (ok : Bool) (hl : ps.length = n) (h20 : n ≤ 1048576) (h : At3 w g ps) (hok : Says ok (Formed ps)) :
    Calls Tryz.prog 92 #[.slice (some ⟨g, 0, none⟩) n cap] w fun e w' => e = .returned (.bool ok) ∧ w' = w := by
  by_cases nn : (160 : Int) < (n : Int)
  · obtain rfl : ok = false := hok.not (fun r => by have := r.1; omega)
    clear hok h
    go_enter Tryz.func92, Tryz.ntmps92
    go_wp2
    go_ret
    exact ⟨rfl, rfl⟩
  have H := hide h
  clear h
  go_enter Tryz.func92, Tryz.ntmps92
  go_wp2
  go_loop [3] (fun i => ∃ (k : Nat), k ≤ n ∧ i = .int .i64 k ∧ Hid (∀ i, i < k → LegOk ps i)) (fun i => n - (intOf i).toNat)
  case atStart => exact ⟨0, by omega, rfl, hide (fun i hi => absurd hi (by omega))⟩
  case round =>
    obtain ⟨k, hk, rfl, HG⟩ := hrel
    by_cases t : k < n
    · obtain ⟨e1, e2, e3⟩ := (unhide H) k (by omega)
      obtain ⟨b1, B1⟩ := says_of (NoOk (el3 ps k).1)
      obtain ⟨b2, B2⟩ := says_of (NoOk (el3 ps k).2.1)
      obtain ⟨b3, B3⟩ := says_of (Amt (el3 ps k).2.2)
      have ROW := hide (show LegOk ps k ↔ (b1 = true) ∧ (b2 = true) ∧ (b3 = true) from by unfold Says at B1 B2 B3; rw [B1, B2, B3]; exact Iff.rfl)
      have BAD := hide (show ¬ LegOk ps k → ok = false from fun hr => hok.not (fun r => hr (r.2 k (by omega))))
      have GOOD := hide (show LegOk ps k → ∀ i, i < k + 1 → LegOk ps i from fun hr i hi => by
        by_cases e : i = k
        · subst e; exact hr
        · exact (unhide HG) i (by omega))
      generalize (el3 ps k).1 = x at *
      generalize (el3 ps k).2.1 = y at *
      generalize (el3 ps k).2.2 = z at *
      cases b1
      · have OKF := hide ((unhide BAD) (fun hr => by have := (unhide ROW).1 hr; cases this.1))
        clear BAD GOOD ROW
        go_wp2_with (first | (go_at_call 17; refine (sNo x false _ B1).mono ?_; rintro e w1 ⟨rfl, rfl⟩))
        go_ret
        exact ⟨by rw [unhide OKF]; rfl, rfl⟩
      · cases b2
        · have OKF := hide ((unhide BAD) (fun hr => by have := (unhide ROW).1 hr; cases this.2.1))
          clear BAD GOOD ROW
          go_wp2_with (first | (go_at_call 17; refine (sNo x true _ B1).mono ?_; rintro e w1 ⟨rfl, rfl⟩) | (go_at_call 17; refine (sNo y false _ B2).mono ?_; rintro e w1 ⟨rfl, rfl⟩))
          go_ret
          exact ⟨by rw [unhide OKF]; rfl, rfl⟩
        · cases b3
          · have OKF := hide ((unhide BAD) (fun hr => by have := (unhide ROW).1 hr; cases this.2.2))
            clear BAD GOOD ROW
            go_wp2_with (first | (go_at_call 17; refine (sNo x true _ B1).mono ?_; rintro e w1 ⟨rfl, rfl⟩) | (go_at_call 17; refine (sNo y true _ B2).mono ?_; rintro e w1 ⟨rfl, rfl⟩) | (go_at_call 84; refine (sAmt z false _ B3).mono ?_; rintro e w1 ⟨rfl, rfl⟩))
            go_ret
            exact ⟨by rw [unhide OKF]; rfl, rfl⟩
          · have GO := hide ((unhide GOOD) ((unhide ROW).2 ⟨rfl, rfl, rfl⟩))
            clear BAD GOOD ROW
            go_wp2_with (first | (go_at_call 17; refine (sNo x true _ B1).mono ?_; rintro e w1 ⟨rfl, rfl⟩) | (go_at_call 17; refine (sNo y true _ B2).mono ?_; rintro e w1 ⟨rfl, rfl⟩) | (go_at_call 84; refine (sAmt z true _ B3).mono ?_; rintro e w1 ⟨rfl, rfl⟩))
            go_round
            case rel => exact ⟨k + 1, by omega, by go_num, GO⟩
            case measure => simp [intOf]; omega
    · obtain rfl : k = n := by omega
      obtain rfl : ok = true := hok.of ⟨by omega, by rw [hl]; exact unhide HG⟩
      clear hok
      go_wp2
      go_ret
      exact ⟨rfl, rfl⟩
theorem at_drewN {w : World} {g : Nat} {ps : List T3} (h : At3 w g ps) (m : Nat) : At3 (w.drewN m) g ps := h
set_option maxRecDepth 100000 in
set_option maxHeartbeats 2000000 in
theorem sLegsOk (w : World) (g n cap : Nat) (ps : List T3) (ok : Bool) (hl : ps.length = n) (h20 : n ≤ 1048576) (h : At3 w g ps) (hok : Says ok (Formed ps ∧ Even ps)) :
    Calls Tryz.prog 93 #[.slice (some ⟨g, 0, none⟩) n cap] w fun e w' => e = .returned (.bool ok) ∧ ∃ q, w' = w.drewN q := by
  obtain ⟨f, F⟩ := says_of (Formed ps)
  have H := hide h
  clear h
  go_enter Tryz.func93, Tryz.ntmps93
  go_wp2_with fail
  refine (sRight _ g n cap ps f hl h20 (unhide H) F).mono ?_
  rintro e w1 ⟨rfl, rfl⟩
  cases f
  · obtain rfl : ok = false := hok.not (fun r => F.no r.1)
    go_wp2
    go_ret
    exact ⟨rfl, 0, rfl⟩
  have h160 : n ≤ 160 := by have := F.yes.1; omega
  have RB := hide (fun i k hk => sum_near (ps := ps) i F.yes.1 (fun j hj => (F.yes.2 j hj).2.2) k hk)
  go_wp2
  go_loopw [3, 4, 5] (fun i _ _ wr => ∃ (k : Nat), k ≤ n ∧ i = .int .i64 k ∧ At3 wr g ps ∧ Hid (∃ q, wr = w1.drewN q) ∧ Hid (∀ i, i < k → sumI ps (el3 ps i).2.1 = 0)) (fun i _ _ _ => n - (intOf i).toNat)
  case atStart => exact ⟨0, by omega, rfl, unhide H, hide ⟨0, rfl⟩, hide (fun i hi => absurd hi (by omega))⟩
  case round =>
    obtain ⟨k, hk, rfl, hA, HQ, HG⟩ := hrel
    have HA := hide hA
    clear hA
    by_cases t : k < n
    · go_wp2
      go_loopw [4, 5] (fun s j wr => ∃ (m : Nat), m ≤ n ∧ j = .int .i64 m ∧ s = .int .i64 (sumI (ps.take m) (el3 ps k).2.1) ∧ At3 wr g ps ∧ Hid (∃ q, wr = w1.drewN q)) (fun _ j _ => n - (intOf j).toNat)
      case atStart => exact ⟨0, by omega, rfl, rfl, unhide HA, HQ⟩
      case round =>
        clear HA HQ
        obtain ⟨m, hm, rfl, rfl, hA, HQ⟩ := hrel
        by_cases tm : m < n
        · obtain ⟨e1, e2, e3⟩ := hA m (by omega)
          have d2 := (hA k (by omega)).2.1
          have HA := hide hA
          clear hA
          have SN := hide (sumI_next (ps := ps) (k := m) (by omega) (el3 ps k).2.1)
          have R1 := hide ((unhide RB) (el3 ps k).2.1 (m + 1) (by omega))
          rw [unhide SN] at R1
          generalize sumI (ps.take m) (el3 ps k).2.1 = S at *
          generalize (el3 ps k).2.1 = v at *
          generalize (el3 ps m).1 = x at *
          generalize (el3 ps m).2.1 = y at *
          generalize (el3 ps m).2.2 = z at *
          by_cases c1 : y = v
          · rw [if_pos c1] at SN R1
            have R2 := unhide R1
            have wr1 : IntKind.i64.wrap (S + z) = S + z := by rw [IntKind.wrap_i64]; omega
            clear R2
            subst c1
            go_wp2_with fail
            go_quiet (fail)
            go_wp2
            go_roundw
            case rel => exact ⟨m + 1, by omega, by go_num, by rw [unhide SN], at_drewN (unhide HA) _, hide (drewN_more (unhide HQ) _)⟩
            case measure => simp [intOf]; omega
          · rw [if_neg c1] at SN R1
            have c1b : (y == v) = false := by simpa using c1
            have SN := hide ((unhide SN).trans (Int.add_zero S))
            go_wp2_with fail
            go_quiet (fail)
            go_wp2
            go_roundw
            case rel => exact ⟨m + 1, by omega, by go_num, by rw [unhide SN], at_drewN (unhide HA) _, hide (drewN_more (unhide HQ) _)⟩
            case measure => simp [intOf]; omega
        · obtain rfl : m = n := by omega
          have e0 : sumI (ps.take m) (el3 ps k).2.1 = sumI ps (el3 ps k).2.1 := by rw [List.take_of_length_le (by omega)]
          rw [e0]
          clear e0
          have HA := hide hA
          clear hA
          have GO := hide (show sumI ps (el3 ps k).2.1 = 0 → ∀ i, i < k + 1 → sumI ps (el3 ps i).2.1 = 0 from fun hr i hi => by
            by_cases e : i = k
            · subst e; exact hr
            · exact (unhide HG) i (by omega))
          have BAD := hide (show sumI ps (el3 ps k).2.1 ≠ 0 → ok = false from fun hr => hok.not (fun r => hr (r.2 _)))
          generalize sumI ps (el3 ps k).2.1 = S at *
          by_cases s0 : S = 0
          · have G := hide ((unhide GO) s0)
            clear GO BAD
            subst s0
            go_wp2
            go_roundw
            case rel => exact ⟨k + 1, by omega, by go_num, unhide HA, HQ, G⟩
            case measure => simp [intOf]; omega
          · have OKF := hide ((unhide BAD) s0)
            have s0b : (S == 0) = false := by simpa using s0
            clear GO BAD
            go_wp2
            go_ret
            exact ⟨by rw [unhide OKF]; rfl, unhide HQ⟩
    · obtain rfl : k = n := by omega
      obtain rfl : ok = true := hok.of ⟨F.yes, even_of (by rw [hl]; exact unhide HG)⟩
      go_wp2
      go_ret
      exact ⟨rfl, unhide HQ⟩
set_option maxRecDepth 100000 in
theorem iFormed (w : World) (g n cap : Nat) (ps : List T3) (ok : Bool) (hl : ps.length = n) (h20 : n ≤ 1048576) (hg : g < w.heap.size) (h : At3 w g ps) (hok : Says ok (Formed ps)) :
    Calls Tryz.prog 126 #[.slice (some ⟨g, 0, none⟩) n cap] w fun e w' => e = .returned (.bool ok) ∧ Below w.heap.size w w' := by
  by_cases nn : (160 : Int) < (n : Int)
  · obtain rfl : ok = false := hok.not (fun r => by have := r.1; omega)
    clear hok h
    go_enter Tryz.func126, Tryz.ntmps126
    go_wp2
    go_ret
    exact ⟨rfl, Below.refl _ _⟩
  have H := hide h
  clear h
  go_enter Tryz.func126, Tryz.ntmps126
  go_wp2
  go_loopw [4, 10] (fun _ i wr => ∃ (k : Nat), k ≤ n ∧ i = .int .i64 k ∧ Below w.heap.size w wr ∧ Hid (∀ i, i < k → LegOk ps i)) (fun _ i _ => n - (intOf i).toNat)
  case atStart => exact ⟨0, by omega, rfl, Below.refl _ _, hide (fun i hi => absurd hi (by omega))⟩
  case round =>
    obtain ⟨k, hk, rfl, hb, HG⟩ := hrel
    by_cases t : k < n
    · obtain ⟨e1, e2, e3⟩ := (unhide H).below hb hg k (by omega)
      have HB := hide hb
      clear hb
      obtain ⟨b1, B1⟩ := says_of (NoOk (el3 ps k).1 ∧ NoOk (el3 ps k).2.1)
      obtain ⟨b3, B3⟩ := says_of (Amt (el3 ps k).2.2)
      have ROW := hide (show LegOk ps k ↔ (b1 = true) ∧ (b3 = true) from by unfold Says at B1 B3; rw [B1, B3]; unfold LegOk; rw [and_assoc])
      have BAD := hide (show ¬ LegOk ps k → ok = false from fun hr => hok.not (fun r => hr (r.2 k (by omega))))
      have GOOD := hide (show LegOk ps k → ∀ i, i < k + 1 → LegOk ps i from fun hr i hi => by
        by_cases e : i = k
        · subst e; exact hr
        · exact (unhide HG) i (by omega))
      generalize (el3 ps k).1 = x at *
      generalize (el3 ps k).2.1 = y at *
      generalize (el3 ps k).2.2 = z at *
      go_wp2_with fail
      refine (keyOk x y b1 _ B1).mono ?_
      rintro e w1 ⟨rfl, n1⟩
      have nb := next (one_more wr (.cells #[.int .i64 x, .int .i64 y, .int .i64 z] 93)) n1
      have f2 : w1.cell? ⟨wr.heap.size, 2, none⟩ = some (.int .i64 z) := (n1.cell (p := ⟨wr.heap.size, 2, none⟩) (by simp)).trans (by simp)
      have NB := hide (next (unhide HB) nb)
      clear n1 nb e1 e2 e3
      cases b1
      · have OKF := hide ((unhide BAD) (fun hr => by have := (unhide ROW).1 hr; cases this.1))
        clear BAD GOOD ROW
        go_wp2
        go_ret
        exact ⟨by rw [unhide OKF]; rfl, unhide NB⟩
      · go_wp2_with fail
        refine (iAmt z b3 _ B3).mono ?_
        rintro e w2 ⟨rfl, rfl⟩
        cases b3
        · have OKF := hide ((unhide BAD) (fun hr => by have := (unhide ROW).1 hr; cases this.2))
          clear BAD GOOD ROW
          go_wp2
          go_ret
          exact ⟨by rw [unhide OKF]; rfl, unhide NB⟩
        · have GO := hide ((unhide GOOD) ((unhide ROW).2 ⟨by trivial, by trivial⟩))
          clear BAD GOOD ROW
          go_wp2
          go_roundw
          case rel => exact ⟨k + 1, by omega, by go_num, unhide NB, GO⟩
          case measure => simp [intOf]; omega
    · obtain rfl : k = n := by omega
      obtain rfl : ok = true := hok.of ⟨by omega, by rw [hl]; exact unhide HG⟩
      have HB := hide hb
      clear hb hok
      go_wp2
      go_ret
      exact ⟨rfl, unhide HB⟩
end Go.Proofs.YteccbaohfmhnfaaGreat.Legs
namespace Go.Proofs.YteccbaohfmhnfaaGreat.BalApp
open Go.ChangeShapes Go.WideShapes Go.ChangeAt Go.RowKit Bals Triples
theorem info2 : (Tryz.prog.info? 102).map (fun i => (i.zero, i.size, i.bytes)) = some (some (.agg #[.int .i64 0, .int .i64 0, .int .i64 0]), 3, 24) := by kernel_rfl
theorem wp_app (u : World) {ops : Array Oper} {rest : List Oper} {o : Oper} {a : Act} {Q : Exit → Act → World → Prop} (hgd : o.guard = none) (s x : Operand)
    (ho : o.op = .call { callee := .builtin .append, args := #[s, x], argTypes := #[32, 32] }) (base g n cap : Nat) (ps : List T3) (vb : Nat) (p q r : Int)
    (hs : a.eval s = .slice (some ⟨g, 0, none⟩) n cap) (hx : a.eval x = .slice (some ⟨vb, 0, none⟩) 1 1) (hown : Own3 102 u base g n cap ps) (hv : Holds3 u vb 0 (p, q, r)) (hn : n ≤ 1048576) (hb : base ≤ u.heap.size)
    (h : ∀ g' c' w', Own3 102 w' base g' (n + 1) c' (ps ++ [(p, q, r)]) → u.grownBy w' (some g) → (g' = g ∨ g' = u.heap.size) → wpList Tryz.prog ops Q rest (a.put o.dst (.slice (some ⟨g', 0, none⟩) (n + 1) c')) w') : wpList Tryz.prog ops Q (o :: rest) a u := by
  obtain ⟨i0, hi, hz0, hz1, hz2⟩ := info_parts info2
  have hat : At3 u vb [(p, q, r)] := by
    intro i hi
    obtain rfl : i = 0 := by simpa using hi
    exact hv
  refine wpList_append_own_at u hgd s x 32 ho base 102 i0 (.agg #[.int .i64 0, .int .i64 0, .int .i64 0]) 3 24 Tryz.underlying32 hi hz0 hz1 hz2 rfl (by decide) _ n _ hs hown ⟨vb, 0, none⟩ 1 1 (flat3 [(p, q, r)]) hx rfl hat.cells (fun u hu => flat3_one u _ hu) (by unfold maxLen; omega) (by omega) hb ?_
  intro v' w' own' gr' nil' loc'
  obtain ⟨g', c', rfl, o'⟩ := own3_of_row (n' := n + 1) (ps := ps ++ [(p, q, r)]) own' rfl (by rw [flat3_append]) (by rw [nil']; simp)
  exact h g' c' w' o' gr' (by simpa [Value.ownBlock] using loc')
/-- A whole list appended to an empty one. -/
theorem wp_copy (u : World) {ops : Array Oper} {rest : List Oper} {o : Oper} {a : Act} {Q : Exit → Act → World → Prop} (hgd : o.guard = none) (s x : Operand)
    (ho : o.op = .call { callee := .builtin .append, args := #[s, x], argTypes := #[32, 32] }) (base g n cap : Nat) (ps : List T3) (vb c : Nat)
    (hs : a.eval s = .slice (some ⟨g, 0, none⟩) 0 cap) (hx : a.eval x = .slice (some ⟨vb, 0, none⟩) n c) (hown : Own3 102 u base g 0 cap []) (hl : ps.length = n) (hv : At3 u vb ps) (hn : n ≤ 1048576) (hb : base ≤ u.heap.size)
    (h : ∀ g' c' w', Own3 102 w' base g' n c' ps → u.grownBy w' (some g) → (g' = g ∨ g' = u.heap.size) → wpList Tryz.prog ops Q rest (a.put o.dst (.slice (some ⟨g', 0, none⟩) n c')) w') : wpList Tryz.prog ops Q (o :: rest) a u := by
  obtain ⟨i0, hi, hz0, hz1, hz2⟩ := info_parts info2
  refine wpList_append_own_at u hgd s x 32 ho base 102 i0 (.agg #[.int .i64 0, .int .i64 0, .int .i64 0]) 3 24 Tryz.underlying32 hi hz0 hz1 hz2 rfl (by decide) _ 0 _ hs hown ⟨vb, 0, none⟩ n c (flat3 ps) hx (by rw [flat3_len, hl]) hv.cells (fun u hu => flat3_one u _ hu) (by unfold maxLen; omega) (by omega) hb ?_
  intro v' w' own' gr' nil' loc'
  obtain ⟨g', c', rfl, o'⟩ := own3_of_row (n' := n) (ps := ps) own' (by omega) rfl (by rw [nil']; simp)
  exact h g' c' w' o' gr' (by simpa [Value.ownBlock] using loc')
end Go.Proofs.YteccbaohfmhnfaaGreat.BalApp
namespace Go.Proofs.YteccbaohfmhnfaaGreat.SPut3
open Go.ChangeShapes Go.WideShapes Go.ChangeAt Go.RowKit Bals Triples Cmp SOk3 Tab Look
theorem step_t {x y : T3} {r out : List T3} (h : y.1 ≠ x.1 ∨ y.2.1 ≠ x.2.1) : out ++ putL x (y :: r) true = (out ++ [y]) ++ putL x r true := by simp [putL, h]
theorem step_ts {x y : T3} {r out : List T3} (h : ¬ (y.1 ≠ x.1 ∨ y.2.1 ≠ x.2.1)) : out ++ putL x (y :: r) true = out ++ putL x r true := by simp [putL, h]
theorem step_f {x y : T3} {r out : List T3} (b : y.1 < x.1 ∨ (y.1 = x.1 ∧ y.2.1 < x.2.1)) : out ++ putL x (y :: r) false = (out ++ [y]) ++ putL x r false := by
  have h : y.1 ≠ x.1 ∨ y.2.1 ≠ x.2.1 := by omega
  simp [putL, b, h]
theorem step_i {x y : T3} {r out : List T3} (b : ¬ (y.1 < x.1 ∨ (y.1 = x.1 ∧ y.2.1 < x.2.1))) (h : y.1 ≠ x.1 ∨ y.2.1 ≠ x.2.1) : out ++ putL x (y :: r) false = (out ++ [x] ++ [y]) ++ putL x r true := by simp [putL, b, h]
theorem step_is {x y : T3} {r out : List T3} (b : ¬ (y.1 < x.1 ∨ (y.1 = x.1 ∧ y.2.1 < x.2.1))) (h : ¬ (y.1 ≠ x.1 ∨ y.2.1 ≠ x.2.1)) : out ++ putL x (y :: r) false = (out ++ [x]) ++ putL x r true := by simp [putL, b, h]
/-- What a list so far can come to bounds it. -/
theorem out_len {out l R : List T3} (h : out ++ l = R) : out.length ≤ R.length := by rw [← h]; simp
/-- An element that stands alone in its block. -/
theorem alone {w : World} {base g : Nat} {p : T3} (h : Own3 102 w base g 1 1 [p]) : Holds3 w g 0 p := h.at 0 (by simp)
set_option maxRecDepth 100000 in
set_option maxHeartbeats 4000000 in
theorem sPut (w : World) (g n cap : Nat) (ps : List T3) (a i x : Int) (put0 : Bool) (hl : ps.length = n) (h20 : n ≤ 100000) (hg : g < w.heap.size) (h : At3 w g ps) (hp : (x == 0) = put0) :
    Calls Tryz.prog 95 #[.slice (some ⟨g, 0, none⟩) n cap, .int .i64 a, .int .i64 i, .int .i64 x] w fun e w' => ∃ g' c', e = .returned (.slice (some ⟨g', 0, none⟩) (putL (a, i, x) ps put0).length c') ∧ Own3 102 w' w.heap.size g' (putL (a, i, x) ps put0).length c' (putL (a, i, x) ps put0) ∧ Below w.heap.size w w' := by
  have H := hide h
  have LR := hide (putL_len (a, i, x) ps put0)
  obtain ⟨R, hR⟩ : ∃ R, R = putL (a, i, x) ps put0 := ⟨_, rfl⟩
  have RL : R.length ≤ 100001 := by rw [hR]; refine Nat.le_trans (unhide LR) ?_; split <;> omega
  rw [← hR]
  have HR := hide hR
  have HP := hide hp
  clear h LR hR hp
  have O0 := hide ((lit30 102 w w.heap.size (Nat.le_refl _)).alloc (.cells #[.int .i64 a, .int .i64 i, .int .i64 x] 102))
  have X0 := hide (lit31 102 (w.alloc (.cells #[] 102)) w.heap.size a i x (by simp))
  have B0 := hide (show Below w.heap.size w ((w.alloc (.cells #[] 102)).alloc (.cells #[.int .i64 a, .int .i64 i, .int .i64 x] 102)) from ((Below.refl _ _).alloc (Nat.le_refl _) _).alloc (by simp) _)
  simp only [World.size_alloc] at X0
  go_enter Tryz.func95, Tryz.ntmps95
  go_wp2
  generalize (w.alloc (.cells #[] 102)).alloc (.cells #[.int .i64 a, .int .i64 i, .int .i64 x] 102) = w0 at *
  generalize hX : w.heap.size + 1 = X at *
  have hXl : w.heap.size < X := by omega
  clear hX
  go_loopw [9, 10, 12, 13] (fun l pv j _ wr => ∃ (out : List T3) (gO c k : Nat) (put : Bool), l = .slice (some ⟨gO, 0, none⟩) out.length c ∧ pv = .bool put ∧ j = .int .i64 k ∧ k ≤ n ∧ gO ≠ X ∧ Hid (Own3 102 wr w.heap.size gO out.length c out) ∧ Hid (Own3 102 wr w.heap.size X 1 1 [(a, i, x)]) ∧ Hid (out ++ putL (a, i, x) (ps.drop k) put = R) ∧ Hid (Below w.heap.size w wr)) (fun _ _ j _ _ => n - (intOf j).toNat)
  case atStart => exact ⟨[], w.heap.size, 0, 0, put0, rfl, by rw [unhide HP], rfl, by omega, by omega, O0, X0, hide (unhide HR).symm, B0⟩
  case round =>
    clear O0 X0 B0
    obtain ⟨out, gO, c, k, put, rfl, rfl, rfl, hk, gX, HO, HX, HE, HB⟩ := hrel
    have OL := out_len (unhide HE)
    have bs := (unhide HB).size
    have gl := (unhide HO).lt.2
    have xl := (unhide HX).lt.2
    by_cases t : k < n
    · obtain ⟨e1, e2, e3⟩ := (unhide H).below (unhide HB) hg k (by omega)
      have HE := hide (show out ++ putL (a, i, x) (el3 ps k :: ps.drop (k + 1)) put = R by rw [← drop_next (by omega)]; exact unhide HE)
      have EQ : el3 ps k = ((el3 ps k).1, (el3 ps k).2.1, (el3 ps k).2.2) := rfl
      rw [EQ] at HE
      clear EQ
      generalize (el3 ps k).1 = p at *
      generalize (el3 ps k).2.1 = q at *
      generalize (el3 ps k).2.2 = r at *
      have O1 := hide ((unhide HO).alloc (.cells #[.int .i64 p, .int .i64 q, .int .i64 r] 102))
      have X1 := hide ((unhide HX).alloc (.cells #[.int .i64 p, .int .i64 q, .int .i64 r] 102))
      have Y1 := hide (lit31 102 wr w.heap.size p q r bs)
      have B1 := hide ((unhide HB).alloc bs (.cells #[.int .i64 p, .int .i64 q, .int .i64 r] 102))
      obtain ⟨b4, B4⟩ := says_of (p < a ∨ (p = a ∧ q < i))
      clear HO HX HB
      cases put
      · cases b4
        · have B4n := B4.no
          go_wp2_with fail
          refine (sBefore p q a i false _ B4).mono ?_
          rintro e w9 ⟨rfl, rfl⟩
          generalize wr.alloc (.cells #[.int .i64 p, .int .i64 q, .int .i64 r] 102) = u at *
          generalize hy : wr.heap.size = yb at *
          clear hy
          have gY : gO ≠ yb := by omega
          have xY : X ≠ yb := by omega
          obtain ⟨x0, x1, x2⟩ := alone (unhide X1)
          have x0 : u.cell? ⟨X, 0, none⟩ = some (.int .i64 a) := x0
          have x1 : u.cell? ⟨X, 1, none⟩ = some (.int .i64 i) := x1
          have x2 : u.cell? ⟨X, 2, none⟩ = some (.int .i64 x) := x2
          have V5 := hide (show Holds3 (u.alloc (.cells #[.int .i64 a, .int .i64 i, .int .i64 x] 102)) u.heap.size 0 (a, i, x) from by unfold Holds3; simp)
          have s5 := (unhide B1).size
          go_wp2_with (first | (at_builtin; refine BalApp.wp_app _ rfl _ _ rfl w.heap.size gO out.length c out u.heap.size a i x rfl rfl ((unhide O1).alloc _) (unhide V5) (by omega) (by simp; omega) ?_) | go_in)
          intro g5 c5 w5 o5 gr5 loc5
          have O5 := hide o5
          have X5 := hide (((unhide X1).alloc (.cells #[.int .i64 a, .int .i64 i, .int .i64 x] 102)).kept gr5 (by simp; omega))
          have Y5 := hide (((unhide Y1).alloc (.cells #[.int .i64 a, .int .i64 i, .int .i64 x] 102)).kept gr5 (by simp; omega))
          have B5 := hide (((unhide B1).alloc s5 (.cells #[.int .i64 a, .int .i64 i, .int .i64 x] 102)).grown gr5 (by simp; omega) (fun j hj => by cases hj; exact (unhide O1).lt.1))
          have xl5 := (unhide X5).lt.2
          have gX5 : g5 ≠ X := by
            try simp at loc5
            have := (unhide X1).lt.2
            omega
          have gY5 : g5 ≠ yb := by
            try simp at loc5
            have := (unhide Y1).lt.2
            omega
          clear o5 gr5 loc5 V5
          obtain ⟨y0, y1, y2⟩ := alone (unhide Y5)
          have y0 : w5.cell? ⟨yb, 0, none⟩ = some (.int .i64 p) := y0
          have y1 : w5.cell? ⟨yb, 1, none⟩ = some (.int .i64 q) := y1
          have y2 : w5.cell? ⟨yb, 2, none⟩ = some (.int .i64 r) := y2
          by_cases o1 : p = a ∧ q = i
          · obtain ⟨rfl, rfl⟩ := o1
            go_wp2
            go_roundw
            case rel => exact ⟨out ++ [(p, q, x)], g5, c5, k + 1, true, by rw [show (out ++ [(p, q, x)]).length = out.length + 1 by simp], rfl, by go_num, by omega, gX5, hide (by rw [show (out ++ [(p, q, x)]).length = out.length + 1 by simp]; first | exact unhide O5 | simpa using unhide O5), X5, hide (by first | exact (step_is (y := (p, q, r)) B4n (by simp)).symm.trans (unhide HE) | simpa using (step_is (y := (p, q, r)) B4n (by simp)).symm.trans (unhide HE)), B5⟩
            case measure => simp [intOf]; omega
          · have EE := hide ((step_i (y := (p, q, r)) (x := (a, i, x)) (out := out) (r := ps.drop (k + 1)) B4n (by simp only; omega)).symm.trans (unhide HE))
            rcases (show p ≠ a ∨ (p = a ∧ q ≠ i) by omega) with o2 | ⟨rfl, o2⟩
            · have ob : (p == a) = false := by simpa using o2
              have V6 := hide (show Holds3 (w5.alloc (.cells #[.int .i64 p, .int .i64 q, .int .i64 r] 102)) w5.heap.size 0 (p, q, r) from by unfold Holds3; simp)
              have s6 := (unhide B5).size
              go_wp2_with (first | (at_builtin; refine BalApp.wp_app _ rfl _ _ rfl w.heap.size g5 (out.length + 1) c5 (out ++ [(a, i, x)]) w5.heap.size p q r rfl rfl ((unhide O5).alloc _) (unhide V6) (by omega) (by simp; omega) ?_) | go_in)
              intro g6 c6 w6 o6 gr6 loc6
              have O6 := hide o6
              have X6 := hide (((unhide X5).alloc (.cells #[.int .i64 p, .int .i64 q, .int .i64 r] 102)).kept gr6 (by simp; omega))
              have Y6 := hide (((unhide Y5).alloc (.cells #[.int .i64 p, .int .i64 q, .int .i64 r] 102)).kept gr6 (by simp; omega))
              have B6 := hide (((unhide B5).alloc s6 (.cells #[.int .i64 p, .int .i64 q, .int .i64 r] 102)).grown gr6 (by simp; omega) (fun j hj => by cases hj; exact (unhide O5).lt.1))
              have xl6 := (unhide X6).lt.2
              have gX6 : g6 ≠ X := by
                try simp at loc6
                have := (unhide X5).lt.2
                omega
              have gY6 : g6 ≠ yb := by
                try simp at loc6
                have := (unhide Y5).lt.2
                omega
              clear o6 gr6 loc6 V6
              go_wp2
              go_roundw
              case rel => exact ⟨out ++ [(a, i, x)] ++ [(p, q, r)], g6, c6, k + 1, true, by rw [show (out ++ [(a, i, x)] ++ [(p, q, r)]).length = out.length + 1 + 1 by simp], rfl, by go_num, by omega, gX6, hide (by rw [show (out ++ [(a, i, x)] ++ [(p, q, r)]).length = out.length + 1 + 1 by simp]; first | exact unhide O6 | simpa using unhide O6), X6, hide (by first | exact unhide EE | simpa using unhide EE), B6⟩
              case measure => simp [intOf]; omega
            · have ob : (q == i) = false := by simpa using o2
              have V6 := hide (show Holds3 (w5.alloc (.cells #[.int .i64 p, .int .i64 q, .int .i64 r] 102)) w5.heap.size 0 (p, q, r) from by unfold Holds3; simp)
              have s6 := (unhide B5).size
              go_wp2_with (first | (at_builtin; refine BalApp.wp_app _ rfl _ _ rfl w.heap.size g5 (out.length + 1) c5 (out ++ [(p, i, x)]) w5.heap.size p q r rfl rfl ((unhide O5).alloc _) (unhide V6) (by omega) (by simp; omega) ?_) | go_in)
              intro g6 c6 w6 o6 gr6 loc6
              have O6 := hide o6
              have X6 := hide (((unhide X5).alloc (.cells #[.int .i64 p, .int .i64 q, .int .i64 r] 102)).kept gr6 (by simp; omega))
              have Y6 := hide (((unhide Y5).alloc (.cells #[.int .i64 p, .int .i64 q, .int .i64 r] 102)).kept gr6 (by simp; omega))
              have B6 := hide (((unhide B5).alloc s6 (.cells #[.int .i64 p, .int .i64 q, .int .i64 r] 102)).grown gr6 (by simp; omega) (fun j hj => by cases hj; exact (unhide O5).lt.1))
              have xl6 := (unhide X6).lt.2
              have gX6 : g6 ≠ X := by
                try simp at loc6
                have := (unhide X5).lt.2
                omega
              have gY6 : g6 ≠ yb := by
                try simp at loc6
                have := (unhide Y5).lt.2
                omega
              clear o6 gr6 loc6 V6
              go_wp2
              go_roundw
              case rel => exact ⟨out ++ [(p, i, x)] ++ [(p, q, r)], g6, c6, k + 1, true, by rw [show (out ++ [(p, i, x)] ++ [(p, q, r)]).length = out.length + 1 + 1 by simp], rfl, by go_num, by omega, gX6, hide (by rw [show (out ++ [(p, i, x)] ++ [(p, q, r)]).length = out.length + 1 + 1 by simp]; first | exact unhide O6 | simpa using unhide O6), X6, hide (by first | exact unhide EE | simpa using unhide EE), B6⟩
              case measure => simp [intOf]; omega
        · have B4y := B4.yes
          have EE := hide ((step_f (y := (p, q, r)) (x := (a, i, x)) (out := out) (r := ps.drop (k + 1)) B4y).symm.trans (unhide HE))
          go_wp2_with fail
          refine (sBefore p q a i true _ B4).mono ?_
          rintro e w9 ⟨rfl, rfl⟩
          generalize wr.alloc (.cells #[.int .i64 p, .int .i64 q, .int .i64 r] 102) = u at *
          generalize hy : wr.heap.size = yb at *
          clear hy
          have gY : gO ≠ yb := by omega
          have xY : X ≠ yb := by omega
          obtain ⟨y0, y1, y2⟩ := alone (unhide Y1)
          have y0 : u.cell? ⟨yb, 0, none⟩ = some (.int .i64 p) := y0
          have y1 : u.cell? ⟨yb, 1, none⟩ = some (.int .i64 q) := y1
          have y2 : u.cell? ⟨yb, 2, none⟩ = some (.int .i64 r) := y2
          rcases (show p ≠ a ∨ (p = a ∧ q ≠ i) by omega) with o2 | ⟨rfl, o2⟩
          · have ob : (p == a) = false := by simpa using o2
            have V6 := hide (show Holds3 (u.alloc (.cells #[.int .i64 p, .int .i64 q, .int .i64 r] 102)) u.heap.size 0 (p, q, r) from by unfold Holds3; simp)
            have s6 := (unhide B1).size
            go_wp2_with (first | (at_builtin; refine BalApp.wp_app _ rfl _ _ rfl w.heap.size gO out.length c out u.heap.size p q r rfl rfl ((unhide O1).alloc _) (unhide V6) (by omega) (by simp; omega) ?_) | go_in)
            intro g6 c6 w6 o6 gr6 loc6
            have O6 := hide o6
            have X6 := hide (((unhide X1).alloc (.cells #[.int .i64 p, .int .i64 q, .int .i64 r] 102)).kept gr6 (by simp; omega))
            have Y6 := hide (((unhide Y1).alloc (.cells #[.int .i64 p, .int .i64 q, .int .i64 r] 102)).kept gr6 (by simp; omega))
            have B6 := hide (((unhide B1).alloc s6 (.cells #[.int .i64 p, .int .i64 q, .int .i64 r] 102)).grown gr6 (by simp; omega) (fun j hj => by cases hj; exact (unhide O1).lt.1))
            have xl6 := (unhide X6).lt.2
            have gX6 : g6 ≠ X := by
              try simp at loc6
              have := (unhide X1).lt.2
              omega
            have gY6 : g6 ≠ yb := by
              try simp at loc6
              have := (unhide Y1).lt.2
              omega
            clear o6 gr6 loc6 V6
            go_wp2
            go_roundw
            case rel => exact ⟨out ++ [(p, q, r)], g6, c6, k + 1, false, by rw [show (out ++ [(p, q, r)]).length = out.length + 1 by simp], rfl, by go_num, by omega, gX6, hide (by rw [show (out ++ [(p, q, r)]).length = out.length + 1 by simp]; first | exact unhide O6 | simpa using unhide O6), X6, hide (by first | exact unhide EE | simpa using unhide EE), B6⟩
            case measure => simp [intOf]; omega
          · have ob : (q == i) = false := by simpa using o2
            have V6 := hide (show Holds3 (u.alloc (.cells #[.int .i64 p, .int .i64 q, .int .i64 r] 102)) u.heap.size 0 (p, q, r) from by unfold Holds3; simp)
            have s6 := (unhide B1).size
            go_wp2_with (first | (at_builtin; refine BalApp.wp_app _ rfl _ _ rfl w.heap.size gO out.length c out u.heap.size p q r rfl rfl ((unhide O1).alloc _) (unhide V6) (by omega) (by simp; omega) ?_) | go_in)
            intro g6 c6 w6 o6 gr6 loc6
            have O6 := hide o6
            have X6 := hide (((unhide X1).alloc (.cells #[.int .i64 p, .int .i64 q, .int .i64 r] 102)).kept gr6 (by simp; omega))
            have Y6 := hide (((unhide Y1).alloc (.cells #[.int .i64 p, .int .i64 q, .int .i64 r] 102)).kept gr6 (by simp; omega))
            have B6 := hide (((unhide B1).alloc s6 (.cells #[.int .i64 p, .int .i64 q, .int .i64 r] 102)).grown gr6 (by simp; omega) (fun j hj => by cases hj; exact (unhide O1).lt.1))
            have xl6 := (unhide X6).lt.2
            have gX6 : g6 ≠ X := by
              try simp at loc6
              have := (unhide X1).lt.2
              omega
            have gY6 : g6 ≠ yb := by
              try simp at loc6
              have := (unhide Y1).lt.2
              omega
            clear o6 gr6 loc6 V6
            go_wp2
            go_roundw
            case rel => exact ⟨out ++ [(p, q, r)], g6, c6, k + 1, false, by rw [show (out ++ [(p, q, r)]).length = out.length + 1 by simp], rfl, by go_num, by omega, gX6, hide (by rw [show (out ++ [(p, q, r)]).length = out.length + 1 by simp]; first | exact unhide O6 | simpa using unhide O6), X6, hide (by first | exact unhide EE | simpa using unhide EE), B6⟩
            case measure => simp [intOf]; omega
      · clear B4
        by_cases o1 : p = a ∧ q = i
        · obtain ⟨rfl, rfl⟩ := o1
          have EE := hide ((step_ts (y := (p, q, r)) (x := (p, q, x)) (out := out) (r := ps.drop (k + 1)) (by simp)).symm.trans (unhide HE))
          go_wp2
          go_roundw
          case rel => exact ⟨out, gO, c, k + 1, true, rfl, rfl, by go_num, by omega, gX, O1, X1, hide (by first | exact unhide EE | simpa using unhide EE), B1⟩
          case measure => simp [intOf]; omega
        · have EE := hide ((step_t (y := (p, q, r)) (x := (a, i, x)) (out := out) (r := ps.drop (k + 1)) (by simp only; omega)).symm.trans (unhide HE))
          have Vb := hide (show Holds3 ((wr.alloc (.cells #[.int .i64 p, .int .i64 q, .int .i64 r] 102)).alloc (.cells #[.int .i64 p, .int .i64 q, .int .i64 r] 102)) (wr.heap.size + 1) 0 (p, q, r) from by unfold Holds3; simp)
          rcases (show p ≠ a ∨ (p = a ∧ q ≠ i) by omega) with o2 | ⟨rfl, o2⟩
          · have ob : (p == a) = false := by simpa using o2
            go_wp2_with (first | (at_builtin; refine BalApp.wp_app _ rfl _ _ rfl w.heap.size gO out.length c out (wr.heap.size + 1) p q r rfl rfl ((unhide O1).alloc _) (unhide Vb) (by omega) (by simp; omega) ?_) | go_in)
            intro g6 c6 w6 o6 gr6 loc6
            have O6 := hide o6
            have X6 := hide (((unhide X1).alloc (.cells #[.int .i64 p, .int .i64 q, .int .i64 r] 102)).kept gr6 (by simp; omega))
            have B6 := hide (((unhide B1).alloc (unhide B1).size (.cells #[.int .i64 p, .int .i64 q, .int .i64 r] 102)).grown gr6 (by simp; omega) (fun j hj => by cases hj; exact (unhide O1).lt.1))
            have gX6 : g6 ≠ X := by
              try simp at loc6
              omega
            clear o6 gr6 loc6
            go_wp2
            go_roundw
            case rel => exact ⟨out ++ [(p, q, r)], g6, c6, k + 1, true, by rw [show (out ++ [(p, q, r)]).length = out.length + 1 by simp], rfl, by go_num, by omega, gX6, hide (by rw [show (out ++ [(p, q, r)]).length = out.length + 1 by simp]; first | exact unhide O6 | simpa using unhide O6), X6, hide (by first | exact unhide EE | simpa using unhide EE), B6⟩
            case measure => simp [intOf]; omega
          · have ob : (q == i) = false := by simpa using o2
            go_wp2_with (first | (at_builtin; refine BalApp.wp_app _ rfl _ _ rfl w.heap.size gO out.length c out (wr.heap.size + 1) p q r rfl rfl ((unhide O1).alloc _) (unhide Vb) (by omega) (by simp; omega) ?_) | go_in)
            intro g6 c6 w6 o6 gr6 loc6
            have O6 := hide o6
            have X6 := hide (((unhide X1).alloc (.cells #[.int .i64 p, .int .i64 q, .int .i64 r] 102)).kept gr6 (by simp; omega))
            have B6 := hide (((unhide B1).alloc (unhide B1).size (.cells #[.int .i64 p, .int .i64 q, .int .i64 r] 102)).grown gr6 (by simp; omega) (fun j hj => by cases hj; exact (unhide O1).lt.1))
            have gX6 : g6 ≠ X := by
              try simp at loc6
              omega
            clear o6 gr6 loc6
            go_wp2
            go_roundw
            case rel => exact ⟨out ++ [(p, q, r)], g6, c6, k + 1, true, by rw [show (out ++ [(p, q, r)]).length = out.length + 1 by simp], rfl, by go_num, by omega, gX6, hide (by rw [show (out ++ [(p, q, r)]).length = out.length + 1 by simp]; first | exact unhide O6 | simpa using unhide O6), X6, hide (by first | exact unhide EE | simpa using unhide EE), B6⟩
            case measure => simp [intOf]; omega
    · obtain rfl : k = n := by omega
      have HE := hide (show out ++ putL (a, i, x) [] put = R by rw [← List.drop_of_length_le (show ps.length ≤ k by omega)]; exact unhide HE)
      cases put
      · have EE := hide (show out ++ [(a, i, x)] = R from by rw [← unhide HE]; simp [putL])
        obtain ⟨x0, x1, x2⟩ := alone (unhide HX)
        have x0 : wr.cell? ⟨X, 0, none⟩ = some (.int .i64 a) := x0
        have x1 : wr.cell? ⟨X, 1, none⟩ = some (.int .i64 i) := x1
        have x2 : wr.cell? ⟨X, 2, none⟩ = some (.int .i64 x) := x2
        have Vb := hide (show Holds3 (wr.alloc (.cells #[.int .i64 a, .int .i64 i, .int .i64 x] 102)) wr.heap.size 0 (a, i, x) from by unfold Holds3; simp)
        go_wp2_with (first | (at_builtin; refine BalApp.wp_app _ rfl _ _ rfl w.heap.size gO out.length c out wr.heap.size a i x rfl rfl ((unhide HO).alloc _) (unhide Vb) (by omega) (by simp; omega) ?_) | go_in)
        intro g6 c6 w6 o6 gr6 loc6
        have O6 := hide o6
        have B6 := hide (((unhide HB).alloc bs (.cells #[.int .i64 a, .int .i64 i, .int .i64 x] 102)).grown gr6 (by simp; omega) (fun j hj => by cases hj; exact (unhide HO).lt.1))
        clear o6 gr6 loc6
        go_wp2
        go_ret
        refine ⟨g6, c6, ?_, ?_, unhide B6⟩
        · rw [← unhide EE]; simp
        · rw [← unhide EE, show (out ++ [(a, i, x)]).length = out.length + 1 by simp]; exact unhide O6
      · have EE := hide (show out = R from by rw [← unhide HE]; simp [putL])
        go_wp2
        go_ret
        exact ⟨gO, c, by rw [← unhide EE]; rfl, by rw [← unhide EE]; exact unhide HO, unhide HB⟩
end Go.Proofs.YteccbaohfmhnfaaGreat.SPut3
namespace Go.Proofs
open Go.Shelf
def Tryz.sortL_ren : Go.Shelf.Ren := ⟨fun | 6 => 140 | 15 => 152 | 14 => 151 | 28 => 168 | 29 => 169 | 20 => 160 | 21 => 161 | 22 => 162 | 23 => 163 | 24 => 164 | 25 => 165 | 26 => 166 | 27 => 167 | 46 => 171 | 47 => 172 | 48 => 173 | 49 => 174 | 50 => 175 | 57 => 176 | n => n, fun | 22 => 32 | 24 => 102 | 25 => 159 | 3 => 3 | 39 => 163 | 0 => 0 | 53 => 183 | 55 => 185 | 4 => 4 | 46 => 177 | 45 => 176 | 50 => 121 | 5 => 5 | 9 => 9 | 66 => 187 | 70 => 191 | 76 => 193 | 77 => 111 | n => n, fun | n => n⟩
theorem Tryz.sortL : Go.Proofs.SlLaysF0.n6 Tryz.prog Tryz.sortL_ren := {
  mixed := by kernel_rfl
  f6 := ⟨Tryz.f140.name, by decide, Tryz.func140.trans (congrArg some (by kernel_rfl))⟩
  f14 := ⟨Tryz.f151.name, by decide, Tryz.func151.trans (congrArg some (by kernel_rfl))⟩
  f15 := Tryz.func152.trans (congrArg some (by kernel_rfl))
  f20 := ⟨Tryz.f160.name, by decide, Tryz.func160.trans (congrArg some (by kernel_rfl))⟩
  f21 := ⟨Tryz.f161.name, by decide, Tryz.func161.trans (congrArg some (by kernel_rfl))⟩
  f22 := ⟨Tryz.f162.name, by decide, Tryz.func162.trans (congrArg some (by kernel_rfl))⟩
  f23 := ⟨Tryz.f163.name, by decide, Tryz.func163.trans (congrArg some (by kernel_rfl))⟩
  f24 := ⟨Tryz.f164.name, by decide, Tryz.func164.trans (congrArg some (by kernel_rfl))⟩
  f25 := ⟨Tryz.f165.name, by decide, Tryz.func165.trans (congrArg some (by kernel_rfl))⟩
  f26 := ⟨Tryz.f166.name, by decide, Tryz.func166.trans (congrArg some (by kernel_rfl))⟩
  f27 := ⟨Tryz.f167.name, by decide, Tryz.func167.trans (congrArg some (by kernel_rfl))⟩
  f28 := Tryz.func168.trans (congrArg some (by kernel_rfl))
  f29 := Tryz.func169.trans (congrArg some (by kernel_rfl))
  f46 := ⟨Tryz.f171.name, by decide, Tryz.func171.trans (congrArg some (by kernel_rfl))⟩
  f47 := Tryz.func172.trans (congrArg some (by kernel_rfl))
  f48 := Tryz.func173.trans (congrArg some (by kernel_rfl))
  f49 := ⟨Tryz.f174.name, by decide, Tryz.func174.trans (congrArg some (by kernel_rfl))⟩
  f50 := ⟨Tryz.f175.name, by decide, Tryz.func175.trans (congrArg some (by kernel_rfl))⟩
  f57 := ⟨Tryz.f176.name, by decide, Tryz.func176.trans (congrArg some (by kernel_rfl))⟩
  t0 := Tryz.underlying0
  a0 := Tryz.isAgg0
  z0 := Tryz.sizeOf0
  v0 := Tryz.zeroValue0
  t3 := Tryz.underlying3
  a3 := Tryz.isAgg3
  z3 := Tryz.sizeOf3
  v3 := Tryz.zeroValue3
  t4 := Tryz.underlying4
  a4 := Tryz.isAgg4
  z4 := Tryz.sizeOf4
  v4 := Tryz.zeroValue4
  t5 := Tryz.underlying5
  a5 := Tryz.isAgg5
  z5 := Tryz.sizeOf5
  v5 := Tryz.zeroValue5
  t9 := Tryz.underlying9
  a9 := Tryz.isAgg9
  z9 := Tryz.sizeOf9
  v9 := Tryz.zeroValue9
  t22 := Tryz.underlying32
  a22 := Tryz.isAgg32
  z22 := Tryz.sizeOf32
  v22 := Tryz.zeroValue32
  t25 := Tryz.underlying159
  a25 := Tryz.isAgg159
  z25 := Tryz.sizeOf159
  v25 := Tryz.zeroValue159
  t39 := Tryz.underlying163
  a39 := Tryz.isAgg163
  z39 := Tryz.sizeOf163
  v39 := Tryz.zeroValue163
  t45 := Tryz.underlying176
  a45 := Tryz.isAgg176
  z45 := Tryz.sizeOf176
  v45 := Tryz.zeroValue176
  t46 := Tryz.underlying177
  a46 := Tryz.isAgg177
  z46 := Tryz.sizeOf177
  v46 := Tryz.zeroValue177
  t50 := Tryz.underlying121
  a50 := Tryz.isAgg121
  z50 := Tryz.sizeOf121
  v50 := Tryz.zeroValue121
  t53 := Tryz.underlying183
  a53 := Tryz.isAgg183
  z53 := Tryz.sizeOf183
  v53 := Tryz.zeroValue183
  t55 := Tryz.underlying185
  a55 := Tryz.isAgg185
  z55 := Tryz.sizeOf185
  v55 := Tryz.zeroValue185
  t66 := Tryz.underlying187
  a66 := Tryz.isAgg187
  z66 := Tryz.sizeOf187
  v66 := Tryz.zeroValue187
  t70 := Tryz.underlying191
  a70 := Tryz.isAgg191
  z70 := Tryz.sizeOf191
  v70 := Tryz.zeroValue191
  t76 := Tryz.underlying193
  a76 := Tryz.isAgg193
  z76 := Tryz.sizeOf193
  v76 := Tryz.zeroValue193
  t77 := Tryz.underlying111
  a77 := Tryz.isAgg111
  z77 := Tryz.sizeOf111
  v77 := Tryz.zeroValue111 }
end Go.Proofs
namespace Go.Proofs.YteccbaohfmhnfaaGreat.Sort3
open Go.ChangeShapes Go.WideShapes Go.ChangeAt Go.RowKit Bals Triples Cmp
open Go.Sort (putRow putCells mapBlock onCells Holds SWO PermIn SortedIn grow flatK get_flatK size_flatK HoldsK)
/-- A triple as the memory holds it. -/
def enc (p : T3) : List Value := [.int .i64 p.1, .int .i64 p.2.1, .int .i64 p.2.2]
def cf (p q : T3) : Int := cmpK p.1 p.2.1 q.1 q.2.1
theorem lt_iff (p q : T3) : ltOf cf p q = true ↔ Bef p q := by
  unfold ltOf cf Bef
  rw [decide_eq_true_eq, cmpK_lt]
theorem lt_not (p q : T3) : ltOf cf p q = false ↔ ¬ Bef p q := by
  rw [← lt_iff]
  simp
theorem swo : SWO (ltOf cf) where
  irrefl x := by rw [lt_not]; exact bef_irrefl x
  trans x y z h1 h2 := by rw [lt_iff] at *; exact bef_trans h1 h2
  ntrans x y z h1 h2 := by rw [lt_not] at *; unfold Bef at *; omega
theorem flat_flatK (d : Array T3) : (flatK enc 3 d).toList = flat3 d.toList := by
  apply List.ext_getElem?
  intro t
  by_cases ht : t < d.size * 3
  · have e1 : (flatK enc 3 d).toList[t]? = some ((enc d[t / 3]!)[t % 3]!) := by
      have := get_flatK enc 3 d t ht
      rw [getElem!_pos _ t (by simpa using ht)] at this
      simp only [Array.getElem?_toList]
      rw [Array.getElem?_eq_getElem (by simpa using ht), this]
    have hq : t / 3 < d.size := by omega
    have e2 : el3 d.toList (t / 3) = d[t / 3]! := by
      rw [getElem!_pos d (t / 3) hq]
      simp [el3, List.getD, hq]
    obtain ⟨f0, f1, f2⟩ := flat3_get d.toList (t / 3) (by simpa using hq)
    rw [e2] at f0 f1 f2
    rw [e1]
    rcases (show t % 3 = 0 ∨ t % 3 = 1 ∨ t % 3 = 2 by omega) with e | e | e
    · rw [show t / 3 * 3 = t by omega] at f0
      rw [f0, e]; rfl
    · rw [show t / 3 * 3 + 1 = t by omega] at f1
      rw [f1, e]; rfl
    · rw [show t / 3 * 3 + 2 = t by omega] at f2
      rw [f2, e]; rfl
  · rw [List.getElem?_eq_none (by simp; omega), List.getElem?_eq_none (by rw [flat3_len]; simp; omega)]
theorem sw_heap (w : World) (blk q : Nat) (d : Array T3) (os : Array Obj) : (sortWorldK enc 3 w blk 0 q d os).heap = (w.heap.modify blk (onCells (putCells id 0 (flatK enc 3 d)))) ++ os := rfl
theorem sw_other (w : World) (blk q : Nat) (d : Array T3) (os : Array Obj) (k : Nat) (hk : k < w.heap.size) (hne : k ≠ blk) : (sortWorldK enc 3 w blk 0 q d os).heap[k]? = w.heap[k]? := by
  rw [sw_heap, Array.getElem?_append_left (by simpa using hk), Array.getElem?_modify, if_neg (Ne.symm hne)]
theorem sw_same (w : World) (blk q : Nat) (d : Array T3) (os : Array Obj) (cur : Array Value) (e : TypeId) (fr : Nat × Nat) (h : w.heap[blk]? = some (.cells cur e fr)) : (sortWorldK enc 3 w blk 0 q d os).heap[blk]? = some (.cells (putCells id 0 (flatK enc 3 d) cur) e fr) := by
  have hb : blk < w.heap.size := (Array.getElem?_eq_some_iff.1 h).1
  rw [sw_heap, Array.getElem?_append_left (by simpa using hb), Array.getElem?_modify, if_pos rfl, h]
  rfl
theorem sw_below (w : World) (blk q : Nat) (d : Array T3) (os : Array Obj) (hb : blk < w.heap.size) : Below blk w (sortWorldK enc 3 w blk 0 q d os) := by
  refine ⟨rfl, rfl, rfl, ?_, fun k hk => ?_⟩
  · rw [sw_heap]; simp
  · exact sw_other w blk q d os k (by omega) (by omega)
theorem put_take (F cur : Array Value) (h : F.size ≤ cur.size) : (putCells id 0 F cur).toList.take F.size = F.toList := by
  apply List.ext_getElem?
  intro i
  by_cases hi : i < F.size
  · rw [List.getElem?_take, if_pos hi]
    have e1 : (putCells id 0 F cur).toList[i]? = some F[i]! := by
      simp [putCells, hi, show i < cur.size by omega]
    rw [e1, getElem!_pos F i hi]
    simp [hi]
  · rw [List.getElem?_take, if_neg hi, List.getElem?_eq_none (by simp; omega)]
theorem own_sorted (w : World) (base blk n cap q : Nat) (d : Array T3) (os : Array Obj) (ps : List T3) (hd : d.size = n) (h : Own3 102 w base blk n cap ps) :
    Own3 102 (sortWorldK enc 3 w blk 0 q d os) base blk n cap d.toList := by
  refine ⟨by rw [flat3_len]; simp [hd], ?_⟩
  rcases h.2 with ⟨z, _⟩ | ⟨g', c, cur, z, hb, hc, h1, h2, h3, h4⟩
  · simp at z
  · obtain ⟨rfl, rfl⟩ : blk = g' ∧ cap = c := by simpa using z
    refine Or.inr ⟨blk, cap, _, rfl, hb, sw_same w blk q d os cur 102 (0, 0) hc, h1, h2, by simpa [putCells] using h3, ?_⟩
    have := put_take (flatK enc 3 d) cur (by rw [size_flatK, hd, h3]; exact Nat.mul_le_mul_right 3 h1)
    rw [size_flatK, hd, flat_flatK] at this
    exact this
theorem holds_of (w : World) (base blk n cap : Nat) (ps : List T3) (h : Own3 102 w base blk n cap ps) : HoldsK enc 3 w blk 0 ps.toArray := by
  intro j hj
  have hl := h.len
  have hj' : j < n * 3 := by simpa [hl] using hj
  refine ⟨?_, by simpa using h.free (0 + j)⟩
  rw [Nat.zero_add]
  have e := World.ownsRow.cellAt h j hj'
  rw [e]
  have f := flat_flatK ps.toArray
  have g : flat3 ps = (flatK enc 3 ps.toArray).toList := by rw [f]
  rw [g, Array.getElem?_toList, Array.getElem?_eq_getElem hj, getElem!_pos _ j hj]
  rfl
set_option maxRecDepth 100000 in
theorem closure (x y : T3) (w : World) : Calls Tryz.prog 141 #[.agg #[.int .i64 x.1, .int .i64 x.2.1, .int .i64 x.2.2], .agg #[.int .i64 y.1, .int .i64 y.2.1, .int .i64 y.2.2]] w fun e w' => e = .returned (.int .i64 (cf x y)) ∧ ∃ q os, w' = grow (w.drewN q) os := by
  obtain ⟨a, i, p⟩ := x
  obtain ⟨b, j, q⟩ := y
  go_enter Tryz.func141, Tryz.ntmps141
  go_wp2_with fail
  refine (compareG a i b j _).mono ?_
  rintro e w1 ⟨rfl, n, os, rfl⟩
  go_wp2
  go_ret
  refine ⟨rfl, n, #[.cells #[.int .i64 a, .int .i64 i, .int .i64 p] 102] ++ #[.cells #[.int .i64 b, .int .i64 j, .int .i64 q] 102] ++ os, ?_⟩
  rw [Go.Sort.alloc_eq_grow, Go.Sort.alloc_eq_grow, Go.Sort.grow_grow]
  exact Go.Sort.grow_grow (w.drewN n) _ _
theorem cmpLays (blk size : Nat) (w : World) : CmpLays Tryz.prog 141 #[] enc 3 cf blk 0 size w := fun _ _ _ _ x y => closure x y _
/-- The library's sort at the program's comparison. -/
theorem sorts (w : World) (base blk n cap : Nat) (ps : List T3) (hn : n ≤ 1048576) (ho : Own3 102 w base blk n cap ps) :
    Calls Tryz.prog 140 #[.slice (some ⟨blk, 0, none⟩) n cap, .func (.func 141) #[] #[]] w fun e w' =>
      e = .returned (.tuple #[]) ∧ ∃ qs, qs.Perm ps ∧ qs.Pairwise (fun p q => ¬ Bef q p) ∧ Own3 102 w' base blk n cap qs ∧ Below blk w w' := by
  have hl := ho.len
  have hs : ps.toArray.size = n := by simpa using hl
  have eg : ∀ args w, (callFunc 141 args).run Tryz.prog w = .ok (.enter 141 args) w := enters_of Tryz.func141 (by kernel_rfl) rfl
  have hcon := AnyQ.slices_SortFunc Tryz.sortL 3 Tryz.isAgg102 Tryz.sizeOf102 enc (fun _ => rfl) (fun x v hv => by simp [enc] at hv; rcases hv with rfl | rfl | rfl <;> rfl) cf swo 141 #[] blk 0 cap ps.toArray w eg (cmpLays blk _ w) (holds_of w base blk n cap ps ho) ho.lt.2 (by rw [hs]; omega)
  change Calls Tryz.prog 140 _ _ _ at hcon
  rw [hs] at hcon
  refine hcon.mono ?_
  rintro e w' ⟨rfl, d', q, os, hp, hso, rfl⟩
  have hd : d'.size = n := hp.1.trans hs
  refine ⟨rfl, d'.toList, ?_, ?_, own_sorted w base blk n cap q d' os ps hd ho, sw_below w blk q d' os ho.lt.2⟩
  · have := hp.2.2
    rw [Array.extract_eq_self_of_le (by omega), Array.extract_eq_self_of_le (by omega)] at this
    simpa using this
  · rw [List.pairwise_iff_getElem]
    intro i j hi hj hij
    have hj' : j < d'.size := by simpa using hj
    have := hso i j (Nat.zero_le _) hij (by omega)
    rw [getElem!_pos d' j hj', getElem!_pos d' i (by omega), lt_not] at this
    simpa using this
end Go.Proofs.YteccbaohfmhnfaaGreat.Sort3
namespace Go.Proofs.YteccbaohfmhnfaaGreat.Out
open Go.ChangeShapes Go.WideShapes Go.ChangeAt Go.RowKit Bals Triples Cmp Tab Look Sort3
/-- The list so far has what has come already, each once. -/
def Coll (qs : List T3) (f : Int → Int → Int) (left : Int → Int → Bool) : Prop :=
  qs.Pairwise (fun p q => other p q) ∧ ∀ p : T3, p ∈ qs ↔ p.2.2 ≠ 0 ∧ f p.1 p.2.1 = p.2.2 ∧ Wf p.1 p.2.1 ∧ left p.1 p.2.1 = false
theorem coll_start {f : Int → Int → Int} {left : Int → Int → Bool} (h : ∀ a i, f a i ≠ 0 → left a i = true) : Coll [] f left := by
  refine ⟨List.Pairwise.nil, fun p => ⟨fun h => absurd h List.not_mem_nil, fun ⟨h1, h2, _, h3⟩ => ?_⟩⟩
  rw [h p.1 p.2.1 (by rw [h2]; exact h1)] at h3
  cases h3
theorem coll_zero {qs : List T3} {f : Int → Int → Int} {left left' : Int → Int → Bool} {a i : Int} (h : Coll qs f left) (hl : ∀ b j, Wf b j → left' b j = (left b j && !decide (b = a ∧ j = i))) (hz : f a i = 0) : Coll qs f left' := by
  refine ⟨h.1, fun p => ?_⟩
  rw [h.2 p]
  constructor
  · rintro ⟨h1, h2, h3, h4⟩
    exact ⟨h1, h2, h3, by rw [hl _ _ h3, h4]; rfl⟩
  · rintro ⟨h1, h2, h3, h4⟩
    refine ⟨h1, h2, h3, ?_⟩
    rw [hl _ _ h3] at h4
    by_cases e : p.1 = a ∧ p.2.1 = i
    · rw [e.1, e.2, hz] at h2
      exact absurd h2.symm h1
    · simpa [e] using h4
theorem coll_more {qs : List T3} {f : Int → Int → Int} {left left' : Int → Int → Bool} {a i : Int} (h : Coll qs f left) (hw : Wf a i) (hla : left a i = true) (hl : ∀ b j, Wf b j → left' b j = (left b j && !decide (b = a ∧ j = i))) (hz : f a i ≠ 0) : Coll (qs ++ [(a, i, f a i)]) f left' := by
  refine ⟨?_, fun p => ?_⟩
  · rw [List.pairwise_append]
    refine ⟨h.1, List.pairwise_singleton _ _, fun p hp q hq => ?_⟩
    rw [List.mem_singleton] at hq
    subst hq
    obtain ⟨_, _, _, h4⟩ := (h.2 p).1 hp
    unfold other
    show a ≠ p.1 ∨ i ≠ p.2.1
    refine Classical.byContradiction fun n => ?_
    have n1 : p.1 = a := Classical.byContradiction fun q => n (.inl (Ne.symm q))
    have n2 : p.2.1 = i := Classical.byContradiction fun q => n (.inr (Ne.symm q))
    rw [n1, n2, hla] at h4
    cases h4
  · rw [List.mem_append, List.mem_singleton, h.2 p]
    constructor
    · rintro (⟨h1, h2, h3, h4⟩ | rfl)
      · exact ⟨h1, h2, h3, by rw [hl _ _ h3, h4]; rfl⟩
      · exact ⟨hz, rfl, hw, by rw [hl _ _ hw]; simp⟩
    · rintro ⟨h1, h2, h3, h4⟩
      by_cases e : p.1 = a ∧ p.2.1 = i
      · obtain ⟨p1, p2, p3⟩ := p
        obtain ⟨rfl, rfl⟩ := e
        simp only at h2
        subst h2
        exact .inr rfl
      · rw [hl _ _ h3] at h4
        exact .inl ⟨h1, h2, h3, by simpa [e] using h4⟩
/-- All that has come, sorted, is the list of what is told. -/
theorem coll_end {qs rs : List T3} {f : Int → Int → Int} {left : Int → Int → Bool} (h : Coll qs f left) (hf : ∀ a i, f a i ≠ 0 → Wf a i) (hl : ∀ a i, Wf a i → left a i = false) (hp : rs.Perm qs) (hs : rs.Pairwise (fun p q => ¬ Bef q p)) : ListOf f rs := by
  have hd : rs.Pairwise (fun p q => other p q) := (hp.pairwise_iff (fun {a b} (o : other a b) => by unfold other at o ⊢; rcases o with o | o; exact .inl (Ne.symm o); exact .inr (Ne.symm o))).2 h.1
  have asc : rs.Pairwise Bef := by
    rw [List.pairwise_iff_getElem] at hs hd ⊢
    intro i j hi hj hij
    have h1 := hs i j hi hj hij
    have h2 := hd i j hi hj hij
    unfold other at h2
    unfold Bef at h1 ⊢
    omega
  have mem : ∀ p : T3, p ∈ rs ↔ p.2.2 ≠ 0 ∧ f p.1 p.2.1 = p.2.2 := fun p => by
    rw [hp.mem_iff, h.2 p]
    constructor
    · rintro ⟨h1, h2, _⟩
      exact ⟨h1, h2⟩
    · rintro ⟨h1, h2⟩
      have w := hf p.1 p.2.1 (by rw [h2]; exact h1)
      exact ⟨h1, h2, w, hl _ _ w⟩
  refine ⟨⟨asc, fun p hp' => ((mem p).1 hp').1⟩, fun a i => ?_⟩
  by_cases z : f a i = 0
  · rw [z]
    refine Classical.byContradiction fun nz => ?_
    have hm := val_mem rs a i nz
    have := ((mem _).1 hm).2
    simp only at this
    rw [z] at this
    exact nz this.symm
  · have hm := (mem (a, i, f a i)).2 ⟨z, rfl⟩
    exact val_of_mem rs asc _ hm
/-- A row of triples is no table and goes over none. -/
theorem own_apart {e : TypeId} {w : World} {base g n cap : Nat} {ps : List T3} {B r m : Nat} {f : Int → Int → Int} {left : Int → Int → Bool} {cnt : Nat} (h : Own3 e w base g n cap ps) (k : RTab w B r m f left cnt) : g ≠ B ∧ g ≠ r := by
  obtain ⟨D, lf, ⟨es, clock, since, seen, c0, hb, _, _, _, hr, _⟩, _⟩ := k
  rcases h.2 with ⟨z, _⟩ | ⟨g', c, cur, z, _, hc, _⟩
  · simp at z
  · obtain ⟨rfl, rfl⟩ : g = g' ∧ cap = c := by simpa using z
    constructor
    · intro e
      rw [e, hb] at hc
      simp at hc
    · intro e
      rw [e, hr] at hc
      simp at hc
theorem Tab.wf {w : World} {B n : Nat} {f : Int → Int → Int} (h : Tab w B n f) : ∀ a i, f a i ≠ 0 → Wf a i := by
  obtain ⟨D, _, h2⟩ := h
  exact h2.2
set_option maxRecDepth 100000 in
set_option maxHeartbeats 2000000 in
theorem iBals (w : World) (B n : Nat) (f : Int → Int → Int) (hn : n ≤ 100000) (ht : Tab w B n f) :
    Calls Tryz.prog 118 #[.map (some B)] w fun e w' => ∃ qs g c, ListOf f qs ∧ qs.length ≤ n ∧ e = .returned (.slice (some ⟨g, 0, none⟩) qs.length c) ∧ Own3 102 w' w.heap.size g qs.length c qs ∧ Below w.heap.size w w' := by
  have hB := ht.lt
  have HWF := hide (Tab.wf ht)
  have t1 := ht.kept (World.grownBy_alloc w (.cells #[] 102) none) (by simp)
  have HT := hide t1
  have O0 := hide (lit30 102 w w.heap.size (Nat.le_refl _))
  have B0 := hide (show Below w.heap.size w (w.alloc (.cells #[] 102)) from (Below.refl _ _).alloc (Nat.le_refl _) _)
  clear ht t1
  go_enter Tryz.func118, Tryz.ntmps118
  go_wp2_with (first | (at_range; refine wp_range _ rfl _ 136 rfl Tryz.underlying136 B n f rfl (unhide HT) ?_; intro w0 left0 cnt0 rt0 c0 lz0 g0 s0) | go_in)
  go_frame
  have RT := hide rt0
  have CO := hide (coll_start lz0)
  have O1 := hide ((unhide O0).kept g0 (by simp))
  have B1 := hide (next (unhide B0) (grownBy_below g0))
  clear rt0 lz0 g0 HT O0 B0
  simp only [World.size_alloc] at RT s0
  simp only [World.size_alloc]
  generalize hR : w.heap.size + 1 = R at *
  have hRl : w.heap.size < R := by omega
  go_loopw [3, 4, 5] (fun l _ _ wr => ∃ (qs : List T3) (g c : Nat) (left : Int → Int → Bool) (cnt : Nat), l = .slice (some ⟨g, 0, none⟩) qs.length c ∧ Hid (Own3 102 wr w.heap.size g qs.length c qs) ∧ Hid (RTab wr B R n f left cnt) ∧ Hid (Coll qs f left) ∧ qs.length + cnt ≤ n ∧ Hid (Below w.heap.size w wr)) (fun _ _ _ wr => wr.rangeLeft B R)
  case atStart => exact ⟨[], w.heap.size, 0, left0, cnt0, rfl, O1, RT, CO, by simpa using c0, B1⟩
  case round =>
    clear RT CO O1 B1 c0 s0
    obtain ⟨qs, g, c, left, cnt, rfl, HO, RT, CO, hc, HB⟩ := hrel
    go_wp2_with (first | (at_next; refine wp_next _ rfl _ rfl B R n f left cnt rfl (unhide RT) ?_ ?_) | go_in)
    · intro c0 l0
      have LZ := hide l0
      have sz := (unhide HO).lt
      clear l0
      go_wp2_with fail
      refine (sorts _ w.heap.size g qs.length c qs (by omega) (unhide HO)).mono ?_
      rintro e w2 ⟨rfl, rs, hp, hs, o2, b2⟩
      have LO := hide (coll_end (unhide CO) (unhide HWF) (unhide LZ) hp hs)
      have el : rs.length = qs.length := hp.length_eq
      have O2 := hide o2
      have B2 := hide ((unhide HB).trans (b2.mono sz.1))
      clear hp hs o2 b2
      go_wp2
      go_ret
      exact ⟨rs, g, c, unhide LO, by omega, by rw [el]; rfl, by rw [el]; exact unhide O2, unhide B2⟩
    · intro a i w2 left2 cnt2 wf wv la l2 rt2 lt2 g2 s2 hen
      have l2 : ∀ b j, Wf b j → left2 b j = (left b j && !decide (b = a ∧ j = i)) := fun b j h => by
        rw [l2 b j h]
        by_cases e1 : b = a <;> by_cases e2 : j = i <;> simp [e1, e2]
      have ap := own_apart (unhide HO) (unhide RT)
      have ML := hide (show w2.rangeLeft B R < wr.rangeLeft B R by rw [rt2.lt.2.2.2, (unhide RT).lt.2.2.2]; exact lt2)
      have RT2 := hide rt2
      have O2 := hide ((unhide HO).kept g2 (by simp; exact ap.2))
      have B2 := hide ((unhide HB).grown g2 (unhide HB).size (fun j hj => by cases hj; exact Nat.le_of_lt hRl))
      have CZ := hide (fun hz => coll_zero (unhide CO) l2 hz)
      have CM := hide (fun hz => coll_more (unhide CO) wf la l2 hz)
      clear rt2 l2 g2 s2 la wf wv CO
      generalize f a i = v at *
      have O3 := hide ((unhide O2).alloc (.cells #[.int .i64 a, .int .i64 i] 138))
      have R3 := hide ((unhide RT2).kept (World.grownBy_alloc w2 (.cells #[.int .i64 a, .int .i64 i] 138) none) (by simp) (by simp))
      have B3 := hide ((unhide B2).alloc (unhide B2).size (.cells #[.int .i64 a, .int .i64 i] 138))
      have M3 : World.rangeLeft (w2.alloc (.cells #[.int .i64 a, .int .i64 i] 138)) B R = w2.rangeLeft B R := by rw [(unhide R3).lt.2.2.2, (unhide RT2).lt.2.2.2]
      have M3 := hide M3
      have bs := (unhide B2).size
      by_cases v0 : v = 0
      · have CC := hide ((unhide CZ) v0)
        clear CZ CM
        subst v0
        go_wp2
        go_roundw
        case rel => exact ⟨qs, g, c, left2, cnt2, rfl, O3, R3, CC, by omega, B3⟩
        case measure => rw [unhide M3]; exact unhide ML
      · have CC := hide ((unhide CM) v0)
        have v0b : (v == 0) = false := by simpa using v0
        clear CZ CM
        have O4 := hide ((unhide O3).alloc (.cells #[.int .i64 a, .int .i64 i, .int .i64 v] 102))
        have R4 := hide ((unhide R3).kept (World.grownBy_alloc _ (.cells #[.int .i64 a, .int .i64 i, .int .i64 v] 102) none) (by simp) (by simp))
        have B4 := hide ((unhide B3).alloc (unhide B3).size (.cells #[.int .i64 a, .int .i64 i, .int .i64 v] 102))
        have V4 := hide (show Holds3 ((w2.alloc (.cells #[.int .i64 a, .int .i64 i] 138)).alloc (.cells #[.int .i64 a, .int .i64 i, .int .i64 v] 102)) (w2.heap.size + 1) 0 (a, i, v) from by unfold Holds3; simp)
        go_wp2_with (first | (at_builtin; refine BalApp.wp_app _ rfl _ _ rfl w.heap.size g qs.length c qs (w2.heap.size + 1) a i v rfl rfl (unhide O4) (unhide V4) (by omega) (by simp; omega) ?_; intro g5 c5 w5 o5 gr5 _) | go_in)
        have R5 := hide ((unhide R4).kept gr5 (by simp; exact Ne.symm ap.1) (by simp; exact Ne.symm ap.2))
        have M5 := hide (show w5.rangeLeft B R = w2.rangeLeft B R by rw [(unhide R5).lt.2.2.2, (unhide RT2).lt.2.2.2])
        have B5 := hide ((unhide B4).grown gr5 (by simp; omega) (fun j hj => by cases hj; exact (unhide HO).lt.1))
        have el : (qs ++ [(a, i, v)]).length = qs.length + 1 := by simp
        have O5 := hide o5
        clear o5 gr5
        go_wp2
        go_roundw
        case rel => exact ⟨qs ++ [(a, i, v)], g5, c5, left2, cnt2, by rw [el], hide (by rw [el]; exact unhide O5), R5, CC, by rw [el]; omega, B5⟩
        case measure => rw [unhide M5]; exact unhide ML
end Go.Proofs.YteccbaohfmhnfaaGreat.Out
namespace Go.Proofs.YteccbaohfmhnfaaGreat.Post
open Go.ChangeShapes Go.WideShapes Go.ChangeAt Go.RowKit Bals Triples Cmp SOk3 IOk3 Tab Look SPut3 Out Legs
/-- What a sum answers, of two that are amounts. -/
def sumIn (a b : Int) (c : Bool) : Int := if c then a + b else 0
set_option maxRecDepth 100000 in
theorem sAdd (a b : Int) (c : Bool) (w : World) (ha : Amt a) (hb : Amt b) (hc : Says c (Amt (a + b))) :
    Calls Tryz.prog 94 #[.int .i64 a, .int .i64 b] w fun e w' => e = .returned (.tuple #[.int .i64 (sumIn a b c), .bool c]) ∧ w' = w := by
  have hs : IntKind.i64.wrap (a + b) = a + b := by unfold Amt at ha hb; rw [IntKind.wrap_i64]; omega
  have SA : Says true (Amt a) := ⟨fun _ => ha, fun _ => rfl⟩
  have SB : Says true (Amt b) := ⟨fun _ => hb, fun _ => rfl⟩
  have T := hide (show (true = true ∧ Amt (a + b) ∧ sumIn a b c = a + b ∧ c = true) ∨ (¬ (true = true ∧ Amt (a + b)) ∧ sumIn a b c = 0 ∧ c = false) from by
    cases c
    · exact .inr ⟨fun q => hc.no q.2, rfl, rfl⟩
    · exact .inl ⟨rfl, hc.yes, rfl, rfl⟩)
  clear ha hb hc
  generalize sumIn a b c = r at *
  go_enter Tryz.func94, Tryz.ntmps94
  go_wp2_with fail
  refine (sAmt a true _ SA).mono ?_
  rintro e w1 ⟨rfl, rfl⟩
  go_wp2_with fail
  refine (sAmt b true _ SB).mono ?_
  rintro e w2 ⟨rfl, rfl⟩
  go_wp2_with fail
  refine (sTold (a + b) true c r _ (by have := unhide T; simpa using this)).mono ?_
  rintro e w3 ⟨rfl, rfl⟩
  go_wp2
  go_ret2
  exact ⟨rfl, rfl⟩
set_option maxRecDepth 100000 in
theorem iAdd (a b : Int) (c : Bool) (w : World) (ha : Amt a) (hb : Amt b) (hc : Says c (Amt (a + b))) :
    Calls Tryz.prog 157 #[.int .i64 a, .int .i64 b] w fun e w' => e = .returned (.tuple #[.int .i64 (sumIn a b c), .bool c]) ∧ w' = w := by
  have hs : IntKind.i64.wrap (a + b) = a + b := by unfold Amt at ha hb; rw [IntKind.wrap_i64]; omega
  have SA : Says true (Amt a) := ⟨fun _ => ha, fun _ => rfl⟩
  have SB : Says true (Amt b) := ⟨fun _ => hb, fun _ => rfl⟩
  have T := hide (show (Amt (a + b) ∧ sumIn a b c = a + b ∧ c = true) ∨ (¬ Amt (a + b) ∧ sumIn a b c = 0 ∧ c = false) from by
    cases c
    · exact .inr ⟨hc.no, rfl, rfl⟩
    · exact .inl ⟨hc.yes, rfl, rfl⟩)
  clear ha hb hc
  generalize sumIn a b c = r at *
  go_enter Tryz.func157, Tryz.ntmps157
  go_wp2_with fail
  refine (iAmt a true _ SA).mono ?_
  rintro e w1 ⟨rfl, rfl⟩
  go_wp2_with fail
  refine (iAmt b true _ SB).mono ?_
  rintro e w2 ⟨rfl, rfl⟩
  go_wp2_with fail
  refine (iOnly (a + b) c r _ (unhide T)).mono ?_
  rintro e w3 ⟨rfl, rfl⟩
  go_wp2
  go_ret2
  exact ⟨rfl, rfl⟩
theorem in_iff {xs : List Int} {x : Int} : x ∈ xs ↔ ∃ i, i < xs.length ∧ xs.getD i 0 = x := by
  constructor
  · intro h
    obtain ⟨i, hi, e⟩ := List.getElem_of_mem h
    exact ⟨i, hi, by simp [List.getD, hi, e]⟩
  · rintro ⟨i, hi, e⟩
    rw [← e]
    simp only [List.getD, List.getElem?_eq_getElem hi, Option.getD_some]
    exact List.getElem_mem hi
set_option maxRecDepth 100000 in
theorem sHas (w : World) (g n cap : Nat) (xs : List Int) (x : Int) (b : Bool) (hl : xs.length = n) (h20 : n ≤ 1048576) (h : Ints.At w g xs) (hb : Says b (x ∈ xs)) :
    Calls Tryz.prog 96 #[.slice (some ⟨g, 0, none⟩) n cap, .int .i64 x] w fun e w' => e = .returned (.bool b) ∧ w' = w := by
  go_enter Tryz.func96, Tryz.ntmps96
  go_wp2
  go_loop [5] (fun j => ∃ (k : Nat), k ≤ n ∧ j = .int .i64 k ∧ Hid (∀ i, i < k → xs.getD i 0 ≠ x)) (fun j => n - (intOf j).toNat)
  case atStart => exact ⟨0, by omega, rfl, hide (fun i hi => by omega)⟩
  case round =>
    obtain ⟨k, hk, rfl, HG⟩ := hrel
    by_cases t : k < n
    · have e1 := h k (by omega)
      have YES := hide (show xs.getD k 0 = x → b = true from fun e => hb.of (in_iff.2 ⟨k, by omega, e⟩))
      have GO := hide (show xs.getD k 0 ≠ x → ∀ i, i < k + 1 → xs.getD i 0 ≠ x from fun hn i hi => by
        by_cases e : i = k
        · subst e; exact hn
        · exact (unhide HG) i (by omega))
      clear h
      generalize xs.getD k 0 = y at *
      by_cases c1 : y = x
      · obtain rfl : b = true := (unhide YES) c1
        clear YES GO
        subst c1
        go_wp2
        go_ret
        exact ⟨rfl, rfl⟩
      · have G := hide ((unhide GO) c1)
        have c1b : (y == x) = false := by simpa using c1
        clear YES GO
        go_wp2
        go_round
        case rel => exact ⟨k + 1, by omega, by go_num, G⟩
        case measure => simp [intOf]; omega
    · obtain rfl : k = n := by omega
      obtain rfl : b = false := hb.not (fun r => by
        obtain ⟨i, hi, e⟩ := in_iff.1 r
        exact (unhide HG) i (by omega) e)
      clear h hb
      go_wp2
      go_ret
      exact ⟨rfl, rfl⟩
set_option maxRecDepth 100000 in
theorem iIndex (w : World) (g n cap : Nat) (xs : List Int) (x : Int) (b : Bool) (hl : xs.length = n) (h20 : n ≤ 1048576) (h : Ints.At w g xs) (hb : Says b (x ∈ xs)) :
    Calls Tryz.prog 170 #[.slice (some ⟨g, 0, none⟩) n cap, .int .i64 x] w fun e w' => ∃ r, (b = true ↔ (0 : Int) ≤ r) ∧ e = .returned (.int .i64 r) ∧ w' = w := by
  go_enter Tryz.func170, Tryz.ntmps170
  go_wp2
  go_loop [5, 8] (fun _ j => ∃ (k : Nat), k ≤ n ∧ j = .int .i64 k ∧ Hid (∀ i, i < k → xs.getD i 0 ≠ x)) (fun _ j => n - (intOf j).toNat)
  case atStart => exact ⟨0, by omega, rfl, hide (fun i hi => by omega)⟩
  case round =>
    obtain ⟨k, hk, rfl, HG⟩ := hrel
    by_cases t : k < n
    · have e1 := h k (by omega)
      have YES := hide (show xs.getD k 0 = x → b = true from fun e => hb.of (in_iff.2 ⟨k, by omega, e⟩))
      have GO := hide (show xs.getD k 0 ≠ x → ∀ i, i < k + 1 → xs.getD i 0 ≠ x from fun hn i hi => by
        by_cases e : i = k
        · subst e; exact hn
        · exact (unhide HG) i (by omega))
      clear h
      generalize xs.getD k 0 = y at *
      by_cases c1 : y = x
      · have BT := hide ((unhide YES) c1)
        clear YES GO
        subst c1
        go_wp2
        go_ret
        exact ⟨(k : Int), ⟨fun _ => by omega, fun _ => unhide BT⟩, rfl, rfl⟩
      · have G := hide ((unhide GO) c1)
        have c1b : (x == y) = false := by simpa using (fun e => c1 (Eq.symm e))
        clear YES GO
        go_wp2
        go_round
        case rel => exact ⟨k + 1, by omega, by go_num, G⟩
        case measure => simp [intOf]; omega
    · obtain rfl : k = n := by omega
      have BF := hide (hb.not (fun r => by
        obtain ⟨i, hi, e⟩ := in_iff.1 r
        exact (unhide HG) i (by omega) e))
      clear h hb
      go_wp2
      go_ret
      exact ⟨-1, ⟨(fun e => by rw [unhide BF] at e; cases e), (fun e => by omega)⟩, rfl, rfl⟩
set_option maxRecDepth 100000 in
theorem iHas (w : World) (g n cap : Nat) (xs : List Int) (x : Int) (b : Bool) (hl : xs.length = n) (h20 : n ≤ 1048576) (h : Ints.At w g xs) (hb : Says b (x ∈ xs)) :
    Calls Tryz.prog 158 #[.slice (some ⟨g, 0, none⟩) n cap, .int .i64 x] w fun e w' => e = .returned (.bool b) ∧ w' = w := by
  have H := hide h
  clear h
  go_enter Tryz.func158, Tryz.ntmps158
  go_wp2_with fail
  refine (iIndex _ g n cap xs x b hl h20 (unhide H) hb).mono ?_
  rintro e w1 ⟨r, hr, rfl, rfl⟩
  cases b
  · have r0 : ¬ (0 : Int) ≤ r := fun q => by have := hr.2 q; cases this
    have rb : decide ((0 : Int) ≤ r) = false := decide_eq_false r0
    clear hr hb
    go_wp2
    go_ret
    exact ⟨by first | rfl | simp [rb], rfl⟩
  · have r0 : (0 : Int) ≤ r := hr.1 rfl
    clear hr hb
    go_wp2
    go_ret
    exact ⟨rfl, rfl⟩
theorem at3_grown {w w' : World} {g B : Nat} {ps : List T3} (h : At3 w g ps) (k : w.grownBy w' (some B)) (hg : g < w.heap.size) (hne : g ≠ B) : At3 w' g ps := by
  intro i hi
  obtain ⟨a, b, c⟩ := h i hi
  have e : w'.heap[g]? = w.heap[g]? := k.block g hg (by simp; exact hne)
  exact ⟨(World.cell?_of_block (w := w) (a := ⟨g, i * 3, none⟩) e).trans a, (World.cell?_of_block (w := w) (a := ⟨g, i * 3 + 1, none⟩) e).trans b, (World.cell?_of_block (w := w) (a := ⟨g, i * 3 + 2, none⟩) e).trans c⟩
theorem grown_drewN {w u : World} {row : Option Nat} (h : w.grownBy u row) (q : Nat) : w.grownBy (u.drewN q) row := ⟨h.os, h.tape, h.output, h.size, h.block⟩
theorem grown_of_drewN {w u : World} {row : Option Nat} {q : Nat} (h : (w.drewN q).grownBy u row) : w.grownBy u row := ⟨h.os, h.tape, h.output, h.size, h.block⟩
theorem tab_drewN {w : World} {B n : Nat} {f : Int → Int → Int} (h : Tab w B n f) (q : Nat) : Tab (w.drewN q) B n f := h
theorem look_run {w : World} {B n : Nat} {f : Int → Int → Int} (h : Tab w B n f) {a i : Int} (hw : Wf a i) : (Instr.lookup 136 (.map (some B)) (.agg #[.int .i64 a, .int .i64 i]) false).run Tryz.prog w = .ok (.int .i64 (f a i)) w := by
  obtain ⟨D, h1, h2, _⟩ := h
  obtain ⟨c, hrun, hat, _⟩ := h1.lookup_int law Tryz.underlying136 Tryz.underlying3 (zero _) (key_of hw)
  rw [h2 a i hw] at hat
  have : f a i = c := by simpa using hat
  rw [this]
  exact hrun
set_option maxRecDepth 100000 in
set_option maxHeartbeats 2000000 in
theorem iAddT (w : World) (B n gL m capL : Nat) (f : Int → Int → Int) (ls : List T3) (hl : ls.length = m) (hn : n ≤ 1000) (hg : gL < w.heap.size) (hne : gL ≠ B) (h : At3 w gL ls) (hF : Formed ls) (hf : Fine f) (ht : Tab w B n f) :
    Calls Tryz.prog 146 #[.map (some B), .slice (some ⟨gL, 0, none⟩) m capL] w fun e w' => ∃ ok : Bool, e = .returned (.bool ok) ∧ (ok = true → ∃ f', posts f ls = some f' ∧ Tab w' B (n + m) f' ∧ Fine f') ∧ (ok = false → posts f ls = none) ∧ w.grownBy w' (some B) := by
  have m160 : m ≤ 160 := by have := hF.1; omega
  have H := hide h
  have HF := hide hF
  have T0 := hide ht
  have F0 := hide hf
  clear h hF ht hf
  go_enter Tryz.func146, Tryz.ntmps146
  go_wp2
  go_loopw [6, 7, 8, 9, 12] (fun _ _ _ _ j wr => ∃ (k : Nat) (fk : Int → Int → Int), k ≤ m ∧ j = .int .i64 k ∧ Hid (Tab wr B (n + k) fk) ∧ Hid (Fine fk) ∧ Hid (posts f ls = posts fk (ls.drop k)) ∧ Hid (w.grownBy wr (some B))) (fun _ _ _ _ j _ => m - (intOf j).toNat)
  case atStart => exact ⟨0, f, by omega, rfl, T0, F0, hide rfl, hide (World.grownBy.refl _ _)⟩
  case round =>
    obtain ⟨k, fk, hk, rfl, HT, FK, HE, HG⟩ := hrel
    by_cases t : k < m
    · obtain ⟨e1, e2, e3⟩ := at3_grown (unhide H) (unhide HG) hg hne k (by omega)
      obtain ⟨l1, l2, l3⟩ := (unhide HF).2 k (by omega)
      have WF := wf_no l1 l2
      have AM := ((unhide FK) (el3 ls k).1 (el3 ls k).2.1).1
      obtain ⟨c, SC⟩ := says_of (Amt (fk (el3 ls k).1 (el3 ls k).2.1 + (el3 ls k).2.2))
      have PY := hide (fun a => (unhide HE).trans (posts_yes (f := fk) (ps := ls) (k := k) (by omega) a))
      have PN := hide (fun a => (unhide HE).trans (posts_no (f := fk) (ps := ls) (k := k) (by omega) a))
      have FU := hide (fun a => (unhide FK).upd (a := (el3 ls k).1) (i := (el3 ls k).2.1) (x := fk (el3 ls k).1 (el3 ls k).2.1 + (el3 ls k).2.2) l1 l2 a)
      have bl := (unhide HT).lt
      clear HE
      generalize (el3 ls k).1 = x at *
      generalize (el3 ls k).2.1 = y at *
      generalize (el3 ls k).2.2 = z at *
      have G1 := hide (grown_trans (grown_trans (unhide HG) (World.grownBy_alloc wr (.cells #[.int .i64 x, .int .i64 y, .int .i64 z] 93) (some B))) (World.grownBy_alloc (wr.alloc (.cells #[.int .i64 x, .int .i64 y, .int .i64 z] 93)) (.cells #[.int .i64 x, .int .i64 y] 138) (some B)))
      have T1 := hide (((unhide HT).kept (World.grownBy_alloc wr (.cells #[.int .i64 x, .int .i64 y, .int .i64 z] 93) none) (by simp)).kept (World.grownBy_alloc (wr.alloc (.cells #[.int .i64 x, .int .i64 y, .int .i64 z] 93)) (.cells #[.int .i64 x, .int .i64 y] 138) none) (by simp))
      go_wp2_with fail
      have d0 : ((wr.alloc (.cells #[.int .i64 x, .int .i64 y, .int .i64 z] 93)).alloc (.cells #[.int .i64 x, .int .i64 y] 138)).cell? ⟨wr.heap.size + 1, 0, none⟩ = some (.int .i64 x) := by simp
      have d1 : ((wr.alloc (.cells #[.int .i64 x, .int .i64 y, .int .i64 z] 93)).alloc (.cells #[.int .i64 x, .int .i64 y] 138)).cell? ⟨wr.heap.size + 1, 1, none⟩ = some (.int .i64 y) := by simp
      have d2 : ((wr.alloc (.cells #[.int .i64 x, .int .i64 y, .int .i64 z] 93)).alloc (.cells #[.int .i64 x, .int .i64 y] 138)).cell? ⟨wr.heap.size, 2, none⟩ = some (.int .i64 z) := by simp
      generalize (wr.alloc (.cells #[.int .i64 x, .int .i64 y, .int .i64 z] 93)).alloc (.cells #[.int .i64 x, .int .i64 y] 138) = u at *
      generalize wr.heap.size + 1 = kb at *
      have LK : ∀ q, (Instr.lookup 136 (.map (some B)) (.agg #[.int .i64 x, .int .i64 y]) false).run Tryz.prog (u.drewN q) = .ok (.int .i64 (fk x y)) (u.drewN q) := fun q => look_run (tab_drewN (unhide T1) q) WF
      generalize hv : fk x y = v at *
      have HV := hide hv
      clear hv e1 e2 e3
      go_quiet (first | (go_at_call 157; refine Calls.quiet_of_same (iAdd v z c _ AM l3 SC)))
      cases c
      · have NO := hide ((unhide PN) SC.no)
        clear PY PN FU
        go_wp2
        go_ret
        exact ⟨false, rfl, (fun e => by cases e), (fun _ => unhide NO), grown_drewN (unhide G1) _⟩
      · have YES := hide ((unhide PY) SC.yes)
        have FN := hide ((unhide FU) SC.yes)
        have WV := wf_amt SC.yes
        clear PY PN FU
        have e0 : sumIn v z true = v + z := rfl
        rw [e0]
        go_wp2_with (first | (at_mapUpdate; refine wp_put _ rfl _ _ _ 136 rfl Tryz.underlying136 B (n + k) fk rfl (tab_drewN (unhide T1) _) (by omega) x y (v + z) rfl rfl WF WV ?_) | go_in)
        intro w5 t5 g5
        have T5 := hide t5
        have G5 := hide (grown_trans (unhide G1) (grown_of_drewN g5))
        clear t5 g5
        go_wp2
        go_roundw
        case rel => exact ⟨k + 1, _, by omega, by go_num, T5, FN, YES, G5⟩
        case measure => simp [intOf]; omega
    · obtain rfl : k = m := by omega
      have E := hide (show posts f ls = some fk from by rw [unhide HE, List.drop_of_length_le (by omega)]; rfl)
      go_wp2
      go_ret
      exact ⟨true, rfl, (fun _ => ⟨fk, unhide E, unhide HT, unhide FK⟩), (fun e => by cases e), unhide HG⟩
end Go.Proofs.YteccbaohfmhnfaaGreat.Post
namespace Go.Proofs.YteccbaohfmhnfaaGreat.Entry
open Go.ChangeShapes Go.WideShapes Go.ChangeAt Go.RowKit Bals Tab Post
open Go.MapKept Go.ChangeMaps Go.WideElems
open Go.WideMaps (KeyLaw)
set_option maxRecDepth 100000 in
theorem klaw : KeyLaw Tryz.prog 138 := deep_law_laid laidOut (m := 2) (by omega) row (by kernel_rfl) wide
theorem owns_block {H : Type} {P : Program} {k : TypeId} {R : Value → Option (DataW H × List MemPlace)} {w w' : World} {b n : Nat} {D : DataW H} (h : w.ownsMap P k R b n D) (e : w'.heap[b]? = w.heap[b]?) : w'.ownsMap P k R b n D := by
  obtain ⟨es, clock, hb, F, hs, hD⟩ := h
  exact ⟨es, clock, e.trans hb, F, hs, hD⟩
theorem tab_block {w w' : World} {B n : Nat} {f : Int → Int → Int} (h : Tab w B n f) (e : w'.heap[B]? = w.heap[B]?) : Tab w' B n f := by
  obtain ⟨D, h1, h2⟩ := h
  exact ⟨D, owns_block h1 e, h2⟩
theorem put_run {w : World} {B n : Nat} {f : Int → Int → Int} (h : Tab w B n f) (hn : n ≤ 1048576) {a i v : Int} (hw : Wf a i) (hv : (Lit.int .i64 v).wf = true) :
    ∃ w', (Instr.mapUpdate 136 (.map (some B)) (.agg #[.int .i64 a, .int .i64 i]) (.int .i64 v)).run Tryz.prog w = .ok () w' ∧ Tab w' B (n + 1) (upd f a i v) ∧ w.grownBy w' (some B) := by
  obtain ⟨D, h1, h2⟩ := h
  obtain ⟨w', r, o, g⟩ := h1.update law Tryz.underlying136 (by unfold maxLen; omega) (key_of hw) (plainElem_int Tryz.underlying3 hv)
  exact ⟨w', r, ⟨_, o, tells_put h2 (isMap_of h1) hw⟩, g⟩
set_option maxRecDepth 100000 in
theorem entry_run {w : World} {B n : Nat} {f : Int → Int → Int} (h : Tab w B n f) (hn : n ≤ 1048576) {a i : Int} (hw : Wf a i) :
    ∃ (v0 : Value) (st : Nat) (w2 : World), (Instr.mapEntry 136 (.map (some B)) (.agg #[.int .i64 a, .int .i64 i])).run Tryz.prog w = .ok (.tuple #[v0, goInt st]) w2 ∧ Tab w2 B (n + 1) f ∧ w.grownBy w2 (some B) ∧
      ∀ v : Int, (Lit.int .i64 v).wf = true → ∃ w3, (Instr.entryStore 136 (.map (some B)) (goInt st) (.int .i64 v)).run Tryz.prog w2 = .ok () w3 ∧ Tab w3 B (n + 1) (upd f a i v) ∧ w.grownBy w3 (some B) := by
  have h' := h
  obtain ⟨D, ⟨es, clock, hb, F, hs, hD⟩, hT⟩ := h
  obtain ⟨v0, st, es1, clock1, hE, hd, hS⟩ := entry_then_store klaw Tryz.underlying136 (z := .int .i64 0) zero hb F (key_of hw)
  refine ⟨v0, st, _, hE, ?_, ⟨rfl, rfl, rfl, by simp [setBlock], fun j _ hj => heap_setBlock_other hb _ (fun e => hj (by rw [e]))⟩, fun v hv => ?_⟩
  · rcases law.find w (key_of hw) es.toList F.keys with ⟨h1, h2⟩ | ⟨j, e0, h1, h2, h3⟩
    · have hE' : (Instr.mapEntry 136 (.map (some B)) (.agg #[.int .i64 a, .int .i64 i])).run Tryz.prog w = .ok (.tuple #[.int .i64 0, goInt clock]) (setBlock w B (.map (es.push ⟨.agg #[.int .i64 a, .int .i64 i], .int .i64 0, clock⟩) (clock + 1))) := by
        simp [Instr.mapEntry, run_underlying Tryz.underlying136, MapKept.run_getObj_map hb, law.check w false (key_of hw), h1, zero, MapKept.run_setObj_map _ hb, Result.andThen, setBlock]
      obtain ⟨w', r, t, g⟩ := put_run h' hn (v := 0) hw (by decide)
      have r' : (Instr.mapUpdate 136 (.map (some B)) (.agg #[.int .i64 a, .int .i64 i]) (.int .i64 0)).run Tryz.prog w = .ok () (setBlock w B (.map (es.push ⟨.agg #[.int .i64 a, .int .i64 i], .int .i64 0, clock⟩) (clock + 1))) := by
        simp [Instr.mapUpdate, run_underlying Tryz.underlying136, MapKept.run_getObj_map hb, law.check w false (key_of hw), h1, MapKept.run_setObj_map _ hb, Result.andThen, setBlock]
      have ew : setBlock w B (.map es1 clock1) = w' := by
        rw [hE] at hE'
        rw [r] at r'
        injection hE' with _ e1
        injection r' with _ e2
        rw [e1, e2]
      have fz : f a i = 0 := by
        have l1 := look_run h' hw
        have l2 : (Instr.lookup 136 (.map (some B)) (.agg #[.int .i64 a, .int .i64 i]) false).run Tryz.prog w = .ok (.int .i64 0) w := by
          simp [Instr.lookup, run_underlying Tryz.underlying136, MapKept.run_getObj_map hb, fun em => law.check w em (key_of hw), h1, zero, Result.andThen]
        rw [l1] at l2
        injection l2 with e1 _
        simpa using e1
      rw [ew]
      refine t.congr fun b j => ?_
      unfold upd
      by_cases e : b = a ∧ j = i
      · rw [if_pos e, e.1, e.2, fz]
      · rw [if_neg e]
    · have hj : es[j]? = some e0 := by simpa using h2
      have hsame : es.modify j (fun e => { e with key := .agg #[.int .i64 a, .int .i64 i] }) = es := by
        apply Array.ext'
        rw [Array.toList_modify, modify_eq_set _ _ _ _ h2]
        have : ({ e0 with key := .agg #[.int .i64 a, .int .i64 i] } : MapEntry) = e0 := by rw [← h3]
        rw [this]
        exact set_self _ _ _ h2
      have hE' : (Instr.mapEntry 136 (.map (some B)) (.agg #[.int .i64 a, .int .i64 i])).run Tryz.prog w = .ok (.tuple #[e0.val, goInt e0.born]) (setBlock w B (.map es clock)) := by
        simp [Instr.mapEntry, run_underlying Tryz.underlying136, MapKept.run_getObj_map hb, law.check w false (key_of hw), h1, hj, h3, law.stays w (key_of hw), hsame, MapKept.run_setObj_map _ hb, Result.andThen, setBlock]
      rw [hE] at hE'
      injection hE' with _ e1
      rw [e1]
      obtain ⟨D', o1, t1⟩ := tab_block (w' := setBlock w B (.map es clock)) h' (by rw [heap_setBlock_same hb]; exact hb.symm)
      exact ⟨D', o1.mono (by omega), t1⟩
  · obtain ⟨es', clock', s1, s2⟩ := hS _ (.int .i64 v) (heap_setBlock_same hb _)
    obtain ⟨w', r, t, g⟩ := put_run h' hn hw hv
    have ew : w' = setBlock w B (.map es' clock') := by
      rw [r] at s2
      injection s2
    refine ⟨_, s1, tab_block t ?_, ⟨rfl, rfl, rfl, by simp [setBlock], fun j _ hj => ?_⟩⟩
    · rw [ew, heap_setBlock_same hb, heap_setBlock_same (heap_setBlock_same hb _)]
    · rw [heap_setBlock_other (heap_setBlock_same hb _) _ (fun e => hj (by rw [e])), heap_setBlock_other hb _ (fun e => hj (by rw [e]))]
end Go.Proofs.YteccbaohfmhnfaaGreat.Entry
namespace Go.Proofs.YteccbaohfmhnfaaGreat.ILotsFit
open Go.ChangeShapes Go.WideShapes Go.ChangeAt Go.RowKit BMem Bks IRead IHave ITrade ILists IBalsFit
open Lots (Says says_of NoOk qtyOf)
open Bals (T3 el3 val sumI upd ListOf)
open Tup5 (T5 el5)
open Tab (Tab Wf wf_no wf_amt)
/-- The table behind k balances. -/
def leftB (b : Bk) (k : Nat) (a i : Int) : Int := if kindOf b.ac a = 1 ∧ kindOf b.ic i = 2 then val (b.bs.take k) a i else 0
/-- The table behind all balances and k lots. -/
def leftL (b : Bk) (k : Nat) (a i : Int) : Int := leftB b b.bs.length a i - qtyOf (b.ls.take k) a i
theorem leftB_zero (b : Bk) (a i : Int) : leftB b 0 a i = 0 := by
  unfold leftB
  split <;> rfl
theorem leftB_yes {b : Bk} (hr : Bals.Right b.bs) {k : Nat} (hk : k < b.bs.length) (h : kindOf b.ac (el3 b.bs k).1 = 1 ∧ kindOf b.ic (el3 b.bs k).2.1 = 2) (a i : Int) : leftB b (k + 1) a i = upd (leftB b k) (el3 b.bs k).1 (el3 b.bs k).2.1 (el3 b.bs k).2.2 a i := by
  unfold leftB
  rw [Look.val_take hr hk]
  unfold upd
  by_cases e : a = (el3 b.bs k).1 ∧ i = (el3 b.bs k).2.1
  · rw [if_pos e, if_pos e, e.1, e.2, if_pos h]
  · rw [if_neg e, if_neg e]
theorem leftB_no {b : Bk} (hr : Bals.Right b.bs) {k : Nat} (hk : k < b.bs.length) (h : ¬ (kindOf b.ac (el3 b.bs k).1 = 1 ∧ kindOf b.ic (el3 b.bs k).2.1 = 2)) (a i : Int) : leftB b (k + 1) a i = leftB b k a i := by
  unfold leftB
  by_cases q : kindOf b.ac a = 1 ∧ kindOf b.ic i = 2
  · rw [if_pos q, if_pos q, Look.val_take hr hk]
    unfold upd
    rw [if_neg (fun e => h (by rw [← e.1, ← e.2]; exact q))]
  · rw [if_neg q, if_neg q]
theorem leftL_zero (b : Bk) (a i : Int) : leftL b 0 a i = leftB b b.bs.length a i := by
  unfold leftL
  simp [qtyOf]
theorem leftL_next {b : Bk} {k : Nat} (hk : k < b.ls.length) (a i : Int) : leftL b (k + 1) a i = upd (leftL b k) (el5 b.ls k).1 (el5 b.ls k).2.1 (leftL b k (el5 b.ls k).1 (el5 b.ls k).2.1 - (el5 b.ls k).2.2.2.1) a i := by
  unfold upd
  by_cases e : a = (el5 b.ls k).1 ∧ i = (el5 b.ls k).2.1
  · rw [if_pos e]
    unfold leftL
    rw [Lots.qtyOf_next hk, if_pos ⟨e.1.symm, e.2.symm⟩, e.1, e.2]
    omega
  · rw [if_neg e]
    unfold leftL
    rw [Lots.qtyOf_next hk, if_neg (fun r => e ⟨r.1.symm, r.2.symm⟩)]
    omega
theorem leftL_all (b : Bk) (a i : Int) : leftL b b.ls.length a i = leftT b a i := by
  unfold leftL leftT leftB
  rw [List.take_length, List.take_length]
theorem leftL_bd {b : Bk} (hl : Lists b) (k : Nat) (a i : Int) : -3000000000000000 ≤ leftL b k a i ∧ leftL b k a i ≤ 3000000000000000 := by
  obtain ⟨_, _, hb, hL, _⟩ := hl
  have h1 := (hb.val_in a i).1
  have h2 := Lots.take_le (ps := b.ls) (fun p hp => by
    obtain ⟨j, _, hj, rfl⟩ := Lots.mem_take (ps := b.ls) (k := b.ls.length) (p := p) (by rw [List.take_length]; exact hp)
    exact (hL.2.1 j hj).1) k a i
  have h3 := Lots.qty_pos (a := a) (i := i) (b.ls.take k) (fun p hp => by
    obtain ⟨j, _, hj, rfl⟩ := Lots.mem_take hp
    exact (hL.2.1 j hj).1)
  have h4 := hL.2.2 a i
  unfold leftL leftB
  unfold Bals.Amt at h1
  rw [List.take_length]
  split <;> omega
/-- No balance is told of a table that holds nothing, and of none other. -/
theorem list_none {f : Int → Int → Int} {qs : List T3} (h : ListOf f qs) : qs.length = 0 ↔ ∀ a i, f a i = 0 := by
  constructor
  · intro e a i
    rw [← h.2 a i, List.length_eq_zero_iff.1 e]
    rfl
  · intro e
    cases qs with
    | nil => rfl
    | cons p r =>
      have := (h.1.mem p).1 List.mem_cons_self
      rw [h.2, e] at this
      exact absurd this.2.symm this.1
theorem below_of_drew {w w' : World} (h : Below w.drew.heap.size w.drew w') : Below w.heap.size w w' := ⟨h.os, h.tape, h.output, h.size, h.block⟩
theorem St.grown {w W W' : World} {x : Bx} {M : Nat} (H : Rd w x) (h : St w W x) (k : W.grownBy W' (some M)) (hM : w.heap.size < M) : St w W' x := by
  have b : Below w.heap.size w W' := h.b.grown k (Nat.le_of_lt h.s) (fun j e => by cases e; omega)
  have ne : some w.heap.size ≠ some M := fun e => by cases e; omega
  exact ⟨H.below b, ⟨k.cell h.c.c0 ne, k.cell h.c.c1 ne, k.cell h.c.c2 ne, k.cell h.c.c3 ne, k.cell h.c.c4 ne, k.cell h.c.c5 ne⟩, b, Nat.lt_of_lt_of_le h.s k.size⟩
set_option maxRecDepth 100000 in
set_option maxHeartbeats 4000000 in
theorem iLotsFit (w : World) (x : Bx) (b : Bool) (h : Rd w x) (hl : Lists x.b) (hb : Says b (LotsFit x.b)) :
    Calls Tryz.prog 101 #[.agg #[.slice (some ⟨x.ga, 0, none⟩) x.b.ac.length x.ca, .slice (some ⟨x.gi, 0, none⟩) x.b.ic.length x.ci, .slice (some ⟨x.gb, 0, none⟩) x.b.bs.length x.cb, .slice (some ⟨x.gl, 0, none⟩) x.b.ls.length x.cl, .slice (some ⟨x.gt, 0, none⟩) x.b.ts.length x.ct, .int .i64 x.b.lot]] w fun e w' => e = .returned (.bool b) ∧ Below w.heap.size w w' := by
  have T := hide hb
  have L := hide hl
  have H := hide h
  have S0 := hide ((St.start h 36).step (one_more _ (.map #[] 0)))
  have nb := h.nb
  have nl := h.nl
  have n160 : x.b.bs.length ≤ 160 := hl.2.2.1.1
  have n120 : x.b.ls.length ≤ 120 := hl.2.2.2.1.1
  have TM := hide (Tab.tab_made (w.alloc (.cells #[.slice (some ⟨x.ga, 0, none⟩) x.b.ac.length x.ca, .slice (some ⟨x.gi, 0, none⟩) x.b.ic.length x.ci, .slice (some ⟨x.gb, 0, none⟩) x.b.bs.length x.cb, .slice (some ⟨x.gl, 0, none⟩) x.b.ls.length x.cl, .slice (some ⟨x.gt, 0, none⟩) x.b.ts.length x.ct, .int .i64 x.b.lot] 36)))
  have hmm := @run_makeMap Tryz.prog
  clear hb hl h
  go_enter Tryz.func101, Tryz.ntmps101
  go_wp2
  go_loopw [12] (fun i wr => ∃ (k : Nat), k ≤ x.b.bs.length ∧ i = .int .i64 k ∧ St w wr x ∧ Hid (Tab wr (w.heap.size + 1) k (leftB x.b k))) (fun i _ => x.b.bs.length - (intOf i).toNat)
  case atStart => exact ⟨0, by omega, rfl, unhide S0, hide ((by simpa using unhide TM : Tab _ (w.heap.size + 1) 0 (fun _ _ => 0)).congr (fun a i => (leftB_zero _ a i).symm))⟩
  case round =>
    obtain ⟨k, hk, rfl, hS, HT⟩ := hrel
    clear S0 TM
    by_cases t : k < x.b.bs.length
    · obtain ⟨d0, d1, d2⟩ := (hS.r.rb k t)
      obtain ⟨c0, c1, c2, c3, c4, c5⟩ := hS.c
      obtain ⟨r1, r2, r3, r4, _⟩ := (unhide L).2.2.1.2 k t
      have WF := hide (wf_no r1 r2)
      have WA := wf_amt r3
      have YES := hide (fun hh => leftB_yes (unhide L).2.2.1 t hh)
      have NO := hide (fun hh => leftB_no (unhide L).2.2.1 t hh)
      have wz := hS.s
      have S1 := hide (hS.step (one_more wr (.cells #[.int .i64 (el3 x.b.bs k).1, .int .i64 (el3 x.b.bs k).2.1, .int .i64 (el3 x.b.bs k).2.2] 102)))
      have T1 := hide ((unhide HT).below (one_more wr (.cells #[.int .i64 (el3 x.b.bs k).1, .int .i64 (el3 x.b.bs k).2.1, .int .i64 (el3 x.b.bs k).2.2] 102)))
      clear hS HT r1 r2 r3 r4
      generalize (el3 x.b.bs k).1 = y0 at *
      generalize (el3 x.b.bs k).2.1 = y1 at *
      generalize (el3 x.b.bs k).2.2 = y2 at *
      obtain ⟨b0, h0⟩ := says_of (kindOf x.b.ac y0 = 1)
      obtain ⟨b1, h1⟩ := says_of (kindOf x.b.ic y1 = 2)
      have H0 := hide h0
      have H1 := hide h1
      clear h0 h1
      go_wp2_with fail
      refine (iHolder _ x y0 b0 (unhide S1).r (unhide L).1 (unhide H0)).mono ?_
      rintro e w1 ⟨rfl, bb⟩
      have S2 := hide ((unhide S1).step bb)
      have T2 := hide ((unhide T1).below bb)
      have f0 : w1.cell? ⟨wr.heap.size, 0, none⟩ = some (.int .i64 y0) := (bb.cell (p := ⟨wr.heap.size, 0, none⟩) (by simp)).trans (by simp)
      have f1 : w1.cell? ⟨wr.heap.size, 1, none⟩ = some (.int .i64 y1) := (bb.cell (p := ⟨wr.heap.size, 1, none⟩) (by simp)).trans (by simp)
      have f2 : w1.cell? ⟨wr.heap.size, 2, none⟩ = some (.int .i64 y2) := (bb.cell (p := ⟨wr.heap.size, 2, none⟩) (by simp)).trans (by simp)
      have z1 : wr.heap.size < w1.heap.size := by have := bb.size; simp at this; omega
      clear bb c0 c1 c2 c3 c4 c5 d0 d1 d2 S1 T1
      obtain ⟨c0, c1, c2, c3, c4, c5⟩ := (unhide S2).c
      cases b0
      · have E := hide ((unhide NO) (fun hh => (unhide H0).no hh.1))
        clear YES NO
        go_wp2
        go_roundw
        case rel =>
          refine ⟨k + 1, by omega, by go_num, unhide S2, hide ?_⟩
          obtain ⟨D, o1, o2⟩ := (unhide T2).congr (fun a i => ((unhide E) a i).symm)
          exact ⟨D, o1.mono (by omega), o2⟩
        case measure => simp [intOf]; omega
      go_wp2_with fail
      refine (iPaper _ x y1 b1 (unhide S2).r (unhide L).2.1 (unhide H1)).mono ?_
      rintro e w2 ⟨rfl, bb⟩
      have S3 := hide ((unhide S2).step bb)
      have T3 := hide ((unhide T2).below bb)
      replace f0 : w2.cell? ⟨wr.heap.size, 0, none⟩ = some (.int .i64 y0) := (bb.cell (p := ⟨wr.heap.size, 0, none⟩) z1).trans f0
      replace f1 : w2.cell? ⟨wr.heap.size, 1, none⟩ = some (.int .i64 y1) := (bb.cell (p := ⟨wr.heap.size, 1, none⟩) z1).trans f1
      replace f2 : w2.cell? ⟨wr.heap.size, 2, none⟩ = some (.int .i64 y2) := (bb.cell (p := ⟨wr.heap.size, 2, none⟩) z1).trans f2
      clear bb c0 c1 c2 c3 c4 c5 S2 T2
      cases b1
      · have E := hide ((unhide NO) (fun hh => (unhide H1).no hh.2))
        clear YES NO
        go_wp2
        go_roundw
        case rel =>
          refine ⟨k + 1, by omega, by go_num, unhide S3, hide ?_⟩
          obtain ⟨D, o1, o2⟩ := (unhide T3).congr (fun a i => ((unhide E) a i).symm)
          exact ⟨D, o1.mono (by omega), o2⟩
        case measure => simp [intOf]; omega
      have E := hide ((unhide YES) ⟨(unhide H0).yes, (unhide H1).yes⟩)
      clear YES NO
      go_wp2_with (first | (at_mapUpdate; refine Tab.wp_put _ rfl _ _ _ 136 rfl Tryz.underlying136 (w.heap.size + 1) k _ rfl (unhide T3) (by omega) y0 y1 y2 rfl rfl (unhide WF) WA ?_; intro w3 t3 g3) | go_in)
      go_roundw
      case rel => exact ⟨k + 1, by omega, by go_num, St.grown (unhide H) (unhide S3) g3 (by omega), hide (t3.congr (fun a i => ((unhide E) a i).symm))⟩
      case measure => simp [intOf]; omega
    · obtain rfl : k = x.b.bs.length := by omega
      obtain ⟨c0, c1, c2, c3, c4, c5⟩ := hS.c
      have S1 := hide hS
      have T1 := hide ((unhide HT).congr (fun a i => (leftL_zero x.b a i).symm))
      clear hS HT
      go_wp2
      go_loopw [38] (fun i wr => ∃ (k : Nat), k ≤ x.b.ls.length ∧ i = .int .i64 k ∧ St w wr x ∧ Hid (Tab wr (w.heap.size + 1) (x.b.bs.length + k) (leftL x.b k)) ∧ Hid (∀ j, j < k → LotFit x.b (el5 x.b.ls j))) (fun i _ => x.b.ls.length - (intOf i).toNat)
      case atStart => exact ⟨0, by omega, rfl, unhide S1, T1, hide (fun i hi => absurd hi (by omega))⟩
      case round =>
        clear c0 c1 c2 c3 c4 c5 S1 T1 hk t
        obtain ⟨k, hk, rfl, hS, HT, HG⟩ := hrel
        by_cases t : k < x.b.ls.length
        · obtain ⟨d0, d1, d2, d3, d4⟩ := (hS.r.rl k t)
          obtain ⟨c0, c1, c2, c3, c4, c5⟩ := hS.c
          have BAD := hide (show ¬ LotFit x.b (el5 x.b.ls k) → b = false from fun hr => (unhide T).not (fun r => hr (r.1 k t)))
          have GOOD := hide (show LotFit x.b (el5 x.b.ls k) → ∀ i, i < k + 1 → LotFit x.b (el5 x.b.ls i) from fun hr i hi => by
            by_cases e : i = k
            · subst e; exact hr
            · exact (unhide HG) i (by omega))
          have FIT := hide (show LotFit x.b (el5 x.b.ls k) ↔ kindOf x.b.ac (el5 x.b.ls k).1 = 1 ∧ kindOf x.b.ic (el5 x.b.ls k).2.1 = 2 ∧ (el5 x.b.ls k).2.2.1 ≤ x.b.lot from Iff.rfl)
          have NX := hide (leftL_next t)
          obtain ⟨r1, r2, _, r4, _⟩ := ((unhide L).2.2.2.1.2.1 k t).1
          have WF := hide (wf_no r1 r2)
          have BD := leftL_bd (unhide L) k (el5 x.b.ls k).1 (el5 x.b.ls k).2.1
          have wz := hS.s
          have mz := (unhide HT).lt
          have S1 := hide (hS.step (one_more wr (.cells #[.int .i64 (el5 x.b.ls k).1, .int .i64 (el5 x.b.ls k).2.1, .int .i64 (el5 x.b.ls k).2.2.1, .int .i64 (el5 x.b.ls k).2.2.2.1, .int .i64 (el5 x.b.ls k).2.2.2.2] 97)))
          have T1 := hide ((unhide HT).below (one_more wr (.cells #[.int .i64 (el5 x.b.ls k).1, .int .i64 (el5 x.b.ls k).2.1, .int .i64 (el5 x.b.ls k).2.2.1, .int .i64 (el5 x.b.ls k).2.2.2.1, .int .i64 (el5 x.b.ls k).2.2.2.2] 97)))
          clear hS HT r1 r2
          generalize (el5 x.b.ls k).1 = y0 at *
          generalize (el5 x.b.ls k).2.1 = y1 at *
          generalize (el5 x.b.ls k).2.2.1 = y2 at *
          generalize (el5 x.b.ls k).2.2.2.1 = y3 at *
          generalize (el5 x.b.ls k).2.2.2.2 = y4 at *
          obtain ⟨b0, h0⟩ := says_of (kindOf x.b.ac y0 = 1)
          obtain ⟨b1, h1⟩ := says_of (kindOf x.b.ic y1 = 2)
          have H0 := hide h0
          have H1 := hide h1
          clear h0 h1
          go_wp2_with fail
          refine (iHolder _ x y0 b0 (unhide S1).r (unhide L).1 (unhide H0)).mono ?_
          rintro e w1 ⟨rfl, bb⟩
          have S2 := hide ((unhide S1).step bb)
          have T2 := hide ((unhide T1).below bb)
          have f0 : w1.cell? ⟨wr.heap.size, 0, none⟩ = some (.int .i64 y0) := (bb.cell (p := ⟨wr.heap.size, 0, none⟩) (by simp)).trans (by simp)
          have f1 : w1.cell? ⟨wr.heap.size, 1, none⟩ = some (.int .i64 y1) := (bb.cell (p := ⟨wr.heap.size, 1, none⟩) (by simp)).trans (by simp)
          have f2 : w1.cell? ⟨wr.heap.size, 2, none⟩ = some (.int .i64 y2) := (bb.cell (p := ⟨wr.heap.size, 2, none⟩) (by simp)).trans (by simp)
          have f3 : w1.cell? ⟨wr.heap.size, 3, none⟩ = some (.int .i64 y3) := (bb.cell (p := ⟨wr.heap.size, 3, none⟩) (by simp)).trans (by simp)
          have f4 : w1.cell? ⟨wr.heap.size, 4, none⟩ = some (.int .i64 y4) := (bb.cell (p := ⟨wr.heap.size, 4, none⟩) (by simp)).trans (by simp)
          have z1 : wr.heap.size < w1.heap.size := by have := bb.size; simp at this; omega
          clear bb c0 c1 c2 c3 c4 c5 d0 d1 d2 d3 d4 S1 T1
          obtain ⟨c0, c1, c2, c3, c4, c5⟩ := (unhide S2).c
          cases b0
          · have F := hide ((unhide BAD) (fun hh => (unhide H0).no ((unhide FIT).1 hh).1))
            clear BAD GOOD FIT T
            go_wp2
            go_ret
            exact ⟨by rw [unhide F]; rfl, (unhide S2).b⟩
          go_wp2_with fail
          refine (iPaper _ x y1 b1 (unhide S2).r (unhide L).2.1 (unhide H1)).mono ?_
          rintro e w2 ⟨rfl, bb⟩
          have S3 := hide ((unhide S2).step bb)
          have T3 := hide ((unhide T2).below bb)
          replace f0 : w2.cell? ⟨wr.heap.size, 0, none⟩ = some (.int .i64 y0) := (bb.cell (p := ⟨wr.heap.size, 0, none⟩) z1).trans f0
          replace f1 : w2.cell? ⟨wr.heap.size, 1, none⟩ = some (.int .i64 y1) := (bb.cell (p := ⟨wr.heap.size, 1, none⟩) z1).trans f1
          replace f2 : w2.cell? ⟨wr.heap.size, 2, none⟩ = some (.int .i64 y2) := (bb.cell (p := ⟨wr.heap.size, 2, none⟩) z1).trans f2
          replace f3 : w2.cell? ⟨wr.heap.size, 3, none⟩ = some (.int .i64 y3) := (bb.cell (p := ⟨wr.heap.size, 3, none⟩) z1).trans f3
          replace f4 : w2.cell? ⟨wr.heap.size, 4, none⟩ = some (.int .i64 y4) := (bb.cell (p := ⟨wr.heap.size, 4, none⟩) z1).trans f4
          have z2 : wr.heap.size < w2.heap.size := Nat.lt_of_lt_of_le z1 bb.size
          clear bb c0 c1 c2 c3 c4 c5 S2 T2
          have c5 := (unhide S3).c.c5
          cases b1
          · have F := hide ((unhide BAD) (fun hh => (unhide H1).no ((unhide FIT).1 hh).2.1))
            clear BAD GOOD FIT T
            go_wp2
            go_ret
            exact ⟨by rw [unhide F]; rfl, (unhide S3).b⟩
          by_cases q : y2 > x.b.lot
          · have F := hide ((unhide BAD) (fun hh => by have := ((unhide FIT).1 hh).2.2; omega))
            clear BAD GOOD FIT T
            go_wp2
            go_ret
            exact ⟨by rw [unhide F]; rfl, (unhide S3).b⟩
          have G := hide ((unhide GOOD) ((unhide FIT).2 ⟨(unhide H0).yes, (unhide H1).yes, by omega⟩))
          have hq : decide (y2 > x.b.lot) = false := decide_eq_false q
          clear BAD GOOD FIT q
          go_wp2_with fail
          clear c5
          generalize hfv : leftL x.b k y0 y1 = fv at *
          have FV := hide hfv
          have wrap1 : IntKind.i64.wrap (fv - y3) = fv - y3 := by rw [IntKind.wrap_i64]; omega
          have WV : (Lit.int .i64 (fv - y3)).wf = true := WalkArith.wf_i64 (by omega)
          clear hfv
          have M1 := hide (fun (W : World) (bW : Below w2.heap.size w2 W) => Entry.entry_run ((unhide T3).below bW) (by omega) (unhide WF))
          go_region_held3 (fun w' => w'.cell? ⟨wr.heap.size, 0, none⟩ = some (.int .i64 y0) ∧ w'.cell? ⟨wr.heap.size, 1, none⟩ = some (.int .i64 y1) ∧ w'.cell? ⟨wr.heap.size, 2, none⟩ = some (.int .i64 y2) ∧ w'.cell? ⟨wr.heap.size, 3, none⟩ = some (.int .i64 y3) ∧ w'.cell? ⟨wr.heap.size, 4, none⟩ = some (.int .i64 y4)) (go_keep)
            (first | (go_at_call 117; refine (CmpL.keyL y0 y1 y2 y3 y4 w2.drew).mono ?_; rintro e w3 ⟨rfl, bb⟩; have bW : Below w2.heap.size w2 w3 := below_of_drew bb; have t3 := (unhide T3).below bW; have l3 := Post.look_run t3 (unhide WF); rw [unhide FV] at l3; obtain ⟨v0, st, w4, E4, t4, g4, ST⟩ := (unhide M1) w3 bW; have l4 := Post.look_run t4 (unhide WF); rw [unhide FV] at l4; obtain ⟨w5, E5, t5, g5⟩ := ST (fv - y3) WV; replace E5 : (Instr.entryStore 136 (.map (some (w.heap.size + 1))) (.int .i64 (st : Int)) (.int .i64 (fv - y3))).run Tryz.prog w4 = .ok () w5 := E5; have ne : some wr.heap.size ≠ some (w.heap.size + 1) := (fun e => by injection e; omega); have p0 : w3.cell? ⟨wr.heap.size, 0, none⟩ = some (.int .i64 y0) := (bW.cell (p := ⟨wr.heap.size, 0, none⟩) z2).trans f0; have q0 := g4.cell p0 ne; have o0 := g5.cell p0 ne; have p1 : w3.cell? ⟨wr.heap.size, 1, none⟩ = some (.int .i64 y1) := (bW.cell (p := ⟨wr.heap.size, 1, none⟩) z2).trans f1; have q1 := g4.cell p1 ne; have o1 := g5.cell p1 ne; have p2 : w3.cell? ⟨wr.heap.size, 2, none⟩ = some (.int .i64 y2) := (bW.cell (p := ⟨wr.heap.size, 2, none⟩) z2).trans f2; have q2 := g4.cell p2 ne; have o2 := g5.cell p2 ne; have p3 : w3.cell? ⟨wr.heap.size, 3, none⟩ = some (.int .i64 y3) := (bW.cell (p := ⟨wr.heap.size, 3, none⟩) z2).trans f3; have q3 := g4.cell p3 ne; have o3 := g5.cell p3 ne; have p4 : w3.cell? ⟨wr.heap.size, 4, none⟩ = some (.int .i64 y4) := (bW.cell (p := ⟨wr.heap.size, 4, none⟩) z2).trans f4; have q4 := g4.cell p4 ne; have o4 := g5.cell p4 ne; clear bb ST))
          all_goals
            have S4 := hide (St.grown (unhide H) ((unhide S3).step bW) g5 (by omega))
            have T5 := hide (t5.congr (fun a i => (by rw [unhide NX] : leftL x.b (k + 1) a i = upd (leftL x.b k) y0 y1 (fv - y3) a i).symm))
            clear t3 l3 E4 t4 g4 l4 t5 g5 E5 p0 p1 p2 p3 p4 q0 q1 q2 q3 q4 o0 o1 o2 o3 o4 f0 f1 f2 f3 f4 S3 T3 M1 bW NX
            go_wp2
            go_roundw
            case rel => exact ⟨k + 1, by omega, by go_num, unhide S4, T5, G⟩
            case measure => simp [intOf]; omega
        · obtain rfl : k = x.b.ls.length := by omega
          have ALL := hide (show ∀ j, j < x.b.ls.length → LotFit x.b (el5 x.b.ls j) from unhide HG)
          have S1 := hide hS
          have T1 := hide ((unhide HT).congr (fun a i => leftL_all x.b a i))
          clear hS HT HG
          go_wp2_with fail
          refine (Out.iBals _ (w.heap.size + 1) _ _ (by omega) (unhide T1)).mono ?_
          rintro e w1 ⟨qs, g, c, hq, hn, rfl, ho, bb⟩
          have B1 := hide ((unhide S1).b.trans (bb.mono (Nat.le_of_lt (unhide S1).s)))
          have hd : ((qs.length : Int) == 0) = b := by
            have hz := (list_none hq).trans (lots_impl (unhide ALL))
            by_cases z : qs.length = 0
            · rw [(unhide T).of (hz.1 z), z]; rfl
            · rw [(unhide T).not (fun r => z (hz.2 r))]
              simp only [beq_eq_false_iff_ne]
              omega
          clear bb ho hq hn
          go_wp2
          go_ret
          exact ⟨rfl, unhide B1⟩
end Go.Proofs.YteccbaohfmhnfaaGreat.ILotsFit
namespace Go.Proofs.YteccbaohfmhnfaaGreat.SLots
open Go.ChangeShapes Go.WideShapes Go.ChangeAt Go.RowKit BMem Bks IRead IHave ITrade ILists IBalsFit SBals
open Lots (Says says_of NoOk ownL restL)
open Bals (T3 el3 val sumI)
open Tup5 (T5 el5)
open Takes (sumQ)
open ILotsFit (below_of_drew)
/-- What is asked of account j and instrument k. -/
def Even (b : Bk) (j k : Nat) : Prop := (Chart.el b.ac j).2 = 1 → (Chart.el b.ic k).2 = 2 → sumQ (ownL b.ls (Chart.el b.ac j).1 (Chart.el b.ic k).1) = val b.bs (Chart.el b.ac j).1 (Chart.el b.ic k).1
set_option maxRecDepth 100000 in
set_option maxHeartbeats 8000000 in
theorem sLots (w : World) (x : Bx) (b : Bool) (h : Rd w x) (hl : Lists x.b) (hb : Says b (LotsFit x.b)) :
    Calls Tryz.prog 57 #[.agg #[.slice (some ⟨x.ga, 0, none⟩) x.b.ac.length x.ca, .slice (some ⟨x.gi, 0, none⟩) x.b.ic.length x.ci, .slice (some ⟨x.gb, 0, none⟩) x.b.bs.length x.cb, .slice (some ⟨x.gl, 0, none⟩) x.b.ls.length x.cl, .slice (some ⟨x.gt, 0, none⟩) x.b.ts.length x.ct, .int .i64 x.b.lot]] w fun e w' => e = .returned (.bool b) ∧ Below w.heap.size w w' := by
  have T := hide hb
  have L := hide hl
  have S0 := hide (St.start h 36)
  have nl := h.nl
  have na := h.na
  have ni := h.ni
  have nb := h.nb
  have n120 : x.b.ls.length ≤ 120 := hl.2.2.2.1.1
  clear hb hl h
  go_enter Tryz.func57, Tryz.ntmps57
  go_wp2
  go_loopw [3] (fun i wr => ∃ (k : Nat), k ≤ x.b.ls.length ∧ i = .int .i64 k ∧ St w wr x ∧ Hid (∀ j, j < k → LotFit x.b (el5 x.b.ls j))) (fun i _ => x.b.ls.length - (intOf i).toNat)
  case atStart => exact ⟨0, by omega, rfl, unhide S0, hide (fun i hi => absurd hi (by omega))⟩
  case round =>
    obtain ⟨k, hk, rfl, hS, HG⟩ := hrel
    clear S0
    by_cases t : k < x.b.ls.length
    · obtain ⟨d0, d1, d2, d3, d4⟩ := (hS.r.rl k t)
      obtain ⟨c0, c1, c2, c3, c4, c5⟩ := hS.c
      have BAD := hide (show ¬ LotFit x.b (el5 x.b.ls k) → b = false from fun hr => (unhide T).not (fun r => hr (r.1 k t)))
      have GOOD := hide (show LotFit x.b (el5 x.b.ls k) → ∀ i, i < k + 1 → LotFit x.b (el5 x.b.ls i) from fun hr i hi => by
        by_cases e : i = k
        · subst e; exact hr
        · exact (unhide HG) i (by omega))
      have FIT := hide (show LotFit x.b (el5 x.b.ls k) ↔ kindOf x.b.ac (el5 x.b.ls k).1 = 1 ∧ kindOf x.b.ic (el5 x.b.ls k).2.1 = 2 ∧ (el5 x.b.ls k).2.2.1 ≤ x.b.lot from Iff.rfl)
      have wz := hS.s
      have S1 := hide (hS.step (one_more wr (.cells #[.int .i64 (el5 x.b.ls k).1, .int .i64 (el5 x.b.ls k).2.1, .int .i64 (el5 x.b.ls k).2.2.1, .int .i64 (el5 x.b.ls k).2.2.2.1, .int .i64 (el5 x.b.ls k).2.2.2.2] 97)))
      clear hS
      generalize LotFit x.b (el5 x.b.ls k) = FP at *
      generalize (el5 x.b.ls k).1 = y0 at *
      generalize (el5 x.b.ls k).2.1 = y1 at *
      generalize (el5 x.b.ls k).2.2.1 = y2 at *
      generalize (el5 x.b.ls k).2.2.2.1 = y3 at *
      generalize (el5 x.b.ls k).2.2.2.2 = y4 at *
      generalize hK : kindOf x.b.ac y0 = K at *
      generalize hJ : kindOf x.b.ic y1 = J at *
      have HK := hide hK
      have HJ := hide hJ
      clear hK hJ
      go_wp2_with fail
      refine (sKindA _ x y0 K (unhide S1).r (unhide L).1 (unhide HK)).mono ?_
      rintro e w1 ⟨rfl, bb⟩
      have S2 := hide ((unhide S1).step bb)
      have f1 : w1.cell? ⟨wr.heap.size, 1, none⟩ = some (.int .i64 y1) := (bb.cell (p := ⟨wr.heap.size, 1, none⟩) (by simp)).trans (by simp)
      have f2 : w1.cell? ⟨wr.heap.size, 2, none⟩ = some (.int .i64 y2) := (bb.cell (p := ⟨wr.heap.size, 2, none⟩) (by simp)).trans (by simp)
      have z1 : wr.heap.size < w1.heap.size := by have := bb.size; simp at this; omega
      clear bb c0 c1 c2 c3 c4 c5 d0 d1 d2 d3 d4
      obtain ⟨c0, c1, c2, c3, c4, c5⟩ := (unhide S2).c
      by_cases q0 : K = 1
      · have hq0 : (K != 1) = false := by simp [q0]
        have Q0 := hide q0
        clear q0
        go_wp2_with fail
        refine (sKindI _ x y1 J (unhide S2).r (unhide L).2.1 (unhide HJ)).mono ?_
        rintro e w2 ⟨rfl, bb⟩
        have S3 := hide ((unhide S2).step bb)
        replace f2 : w2.cell? ⟨wr.heap.size, 2, none⟩ = some (.int .i64 y2) := (bb.cell (p := ⟨wr.heap.size, 2, none⟩) z1).trans f2
        clear bb c0 c1 c2 c3 c4 c5
        obtain ⟨c0, c1, c2, c3, c4, c5⟩ := (unhide S3).c
        by_cases q1 : J = 2
        · have hq1 : (J != 2) = false := by simp [q1]
          by_cases q2 : y2 > x.b.lot
          · have F := hide ((unhide BAD) (fun hh => by have := ((unhide FIT).1 hh).2.2; omega))
            clear BAD GOOD FIT T q1
            go_wp2
            go_ret
            exact ⟨by rw [unhide F]; rfl, (unhide S3).b⟩
          · have G := hide ((unhide GOOD) ((unhide FIT).2 ⟨unhide Q0, q1, by omega⟩))
            have hq2 : decide (y2 > x.b.lot) = false := decide_eq_false q2
            clear BAD GOOD FIT q1 q2
            go_wp2
            go_roundw
            case rel => exact ⟨k + 1, by omega, by go_num, unhide S3, G⟩
            case measure => simp [intOf]; omega
        · have F := hide ((unhide BAD) (fun hh => q1 ((unhide FIT).1 hh).2.1))
          have hq1 : (J != 2) = true := by simp [q1]
          clear BAD GOOD FIT T q1
          go_wp2
          go_ret
          exact ⟨by rw [unhide F]; rfl, (unhide S3).b⟩
      · have F := hide ((unhide BAD) (fun hh => q0 ((unhide FIT).1 hh).1))
        have hq : (K != 1) = true := by simp [q0]
        clear BAD GOOD FIT T q0
        go_wp2
        go_ret
        exact ⟨by rw [unhide F]; rfl, (unhide S2).b⟩
    · have ALL := hide (show ∀ j, j < x.b.ls.length → LotFit x.b (el5 x.b.ls j) from fun j hj => (unhide HG) j (by omega))
      have IFF := hide (lots_spec (unhide L).1 (unhide L).2.1 (unhide ALL))
      obtain ⟨c0, c1, c2, c3, c4, c5⟩ := hS.c
      have S1 := hide hS
      clear hS HG
      go_wp2
      go_loopw [5] (fun i wr => ∃ (j : Nat), j ≤ x.b.ac.length ∧ i = .int .i64 j ∧ St w wr x ∧ Hid (∀ j', j' < j → ∀ k, k < x.b.ic.length → Even x.b j' k)) (fun i _ => x.b.ac.length - (intOf i).toNat)
      case atStart => exact ⟨0, by omega, rfl, unhide S1, hide (fun i hi => absurd hi (by omega))⟩
      case round =>
        clear c0 c1 c2 c3 c4 c5 S1 hk t
        obtain ⟨j, hj, rfl, hS, HG⟩ := hrel
        obtain ⟨c0, c1, c2, c3, c4, c5⟩ := hS.c
        have S1 := hide hS
        clear hS
        by_cases t : j < x.b.ac.length
        · go_wp2
          go_loopw [6] (fun i wr => ∃ (k : Nat), k ≤ x.b.ic.length ∧ i = .int .i64 k ∧ St w wr x ∧ Hid (∀ k', k' < k → Even x.b j k')) (fun i _ => x.b.ic.length - (intOf i).toNat)
          case atStart => exact ⟨0, by omega, rfl, unhide S1, hide (fun i hi => absurd hi (by omega))⟩
          case round =>
            clear c0 c1 c2 c3 c4 c5 S1
            obtain ⟨k, hk, rfl, hS, HK⟩ := hrel
            obtain ⟨c0, c1, c2, c3, c4, c5⟩ := hS.c
            by_cases u : k < x.b.ic.length
            · obtain ⟨a0, a1⟩ := hS.r.ra j t
              obtain ⟨i0, i1⟩ := hS.r.ri k u
              have S2 := hide hS
              have wz := hS.s
              clear hS
              have BAD := hide (show ¬ Even x.b j k → b = false from fun hr => (unhide T).not (fun r => hr (((unhide IFF).1 r) j t k u)))
              have GOOD := hide (show Even x.b j k → ∀ i, i < k + 1 → Even x.b j i from fun hr i hi => by
                by_cases e : i = k
                · subst e; exact hr
                · exact (unhide HK) i (by omega))
              have DEF := hide (show Even x.b j k ↔ ((Chart.el x.b.ac j).2 = 1 → (Chart.el x.b.ic k).2 = 2 → sumQ (ownL x.b.ls (Chart.el x.b.ac j).1 (Chart.el x.b.ic k).1) = val x.b.bs (Chart.el x.b.ac j).1 (Chart.el x.b.ic k).1) from Iff.rfl)
              generalize Even x.b j k = EP at *
              generalize (Chart.el x.b.ac j).1 = y0 at *
              generalize (Chart.el x.b.ac j).2 = y1 at *
              generalize (Chart.el x.b.ic k).1 = z0 at *
              generalize (Chart.el x.b.ic k).2 = z1 at *
              by_cases q0 : y1 = 1
              · by_cases q1 : z1 = 2
                · have DEF2 := hide (show EP ↔ sumQ (ownL x.b.ls y0 z0) = val x.b.bs y0 z0 from (unhide DEF).trans ⟨fun hh => hh q0 q1, fun hh _ _ => hh⟩)
                  have hq0 : (y1 == 1) = true := by simp [q0]
                  have hq1 : (z1 == 2) = true := by simp [q1]
                  have kj : (0 : Int) ≤ (j : Int) := by omega
                  have kj2 : (j : Int) < (x.b.ac.length : Int) := by omega
                  have kk : (0 : Int) ≤ (k : Int) := by omega
                  have kk2 : (k : Int) < (x.b.ic.length : Int) := by omega
                  clear DEF q0 q1
                  go_wp2_with fail
                  have ga := (unhide S2).r.la
                  have gi := (unhide S2).r.li
                  go_region_held3 (fun w' => w'.cell? ⟨w.heap.size, 0, none⟩ = some (.slice (some ⟨x.ga, 0, none⟩) x.b.ac.length x.ca) ∧ w'.cell? ⟨w.heap.size, 1, none⟩ = some (.slice (some ⟨x.gi, 0, none⟩) x.b.ic.length x.ci) ∧ w'.cell? ⟨w.heap.size, 2, none⟩ = some (.slice (some ⟨x.gb, 0, none⟩) x.b.bs.length x.cb) ∧ w'.cell? ⟨w.heap.size, 3, none⟩ = some (.slice (some ⟨x.gl, 0, none⟩) x.b.ls.length x.cl) ∧ w'.cell? ⟨x.ga, j * 2, none⟩ = some (.int .i64 y0) ∧ w'.cell? ⟨x.gi, k * 2, none⟩ = some (.int .i64 z0)) (go_keep)
                    (first | (go_at_call 89; refine (SSplit.sSplit wr.drew x.gl _ x.cl x.b.ls y0 z0 rfl (by omega) (unhide S2).r.ll (unhide S2).r.rl).mono ?_; rintro e w3 ⟨g1, k1, g2, k2, rfl, o1, o2, ne, bb⟩; have bW : Below wr.heap.size wr w3 := below_of_drew bb; have pc0 : w3.cell? ⟨w.heap.size, 0, none⟩ = some (.slice (some ⟨x.ga, 0, none⟩) x.b.ac.length x.ca) := (bW.cell (p := ⟨w.heap.size, 0, none⟩) wz).trans c0; have pc1 : w3.cell? ⟨w.heap.size, 1, none⟩ = some (.slice (some ⟨x.gi, 0, none⟩) x.b.ic.length x.ci) := (bW.cell (p := ⟨w.heap.size, 1, none⟩) wz).trans c1; have pc2 : w3.cell? ⟨w.heap.size, 2, none⟩ = some (.slice (some ⟨x.gb, 0, none⟩) x.b.bs.length x.cb) := (bW.cell (p := ⟨w.heap.size, 2, none⟩) wz).trans c2; have pc3 : w3.cell? ⟨w.heap.size, 3, none⟩ = some (.slice (some ⟨x.gl, 0, none⟩) x.b.ls.length x.cl) := (bW.cell (p := ⟨w.heap.size, 3, none⟩) wz).trans c3; have pa0 : w3.cell? ⟨x.ga, j * 2, none⟩ = some (.int .i64 y0) := (bW.cell (p := ⟨x.ga, j * 2, none⟩) ga).trans a0; have pi0 : w3.cell? ⟨x.gi, k * 2, none⟩ = some (.int .i64 z0) := (bW.cell (p := ⟨x.gi, k * 2, none⟩) gi).trans i0))
                  have S3 := hide ((unhide S2).step bW)
                  have O1 := hide o1
                  have l1 := o1.lt.2
                  clear c0 c1 c2 c3 c4 c5 a0 a1 i0 i1 bb bW o1 o2 ne
                  obtain ⟨ps1, ps2, ps3⟩ := Takes.own_pos (unhide L).2.2.2.1 y0 z0
                  have P1 := hide ps1
                  have n1 : (ownL x.b.ls y0 z0).length ≤ 1048576 := Nat.le_trans (List.length_filter_le _ _) nl
                  have w3z := (unhide S3).s
                  have ga3 := (unhide S3).r.la
                  have gi3 := (unhide S3).r.li
                  clear ps1 ps3
                  generalize hQ : sumQ (ownL x.b.ls y0 z0) = QV at *
                  generalize hV : val x.b.bs y0 z0 = VV at *
                  have HQ := hide hQ
                  have HV := hide hV
                  clear hQ hV
                  go_wp2_with fail
                  go_region_held3 (fun w' => w'.cell? ⟨w.heap.size, 0, none⟩ = some (.slice (some ⟨x.ga, 0, none⟩) x.b.ac.length x.ca) ∧ w'.cell? ⟨w.heap.size, 1, none⟩ = some (.slice (some ⟨x.gi, 0, none⟩) x.b.ic.length x.ci) ∧ w'.cell? ⟨w.heap.size, 2, none⟩ = some (.slice (some ⟨x.gb, 0, none⟩) x.b.bs.length x.cb) ∧ w'.cell? ⟨w.heap.size, 3, none⟩ = some (.slice (some ⟨x.gl, 0, none⟩) x.b.ls.length x.cl) ∧ w'.cell? ⟨x.ga, j * 2, none⟩ = some (.int .i64 y0) ∧ w'.cell? ⟨x.gi, k * 2, none⟩ = some (.int .i64 z0)) (go_keep)
                    (first | (go_at_call 90; refine (SSplit.sQty w3.drew g1 _ k1 (ownL x.b.ls y0 z0) rfl n1 (unhide O1).at (unhide P1) (by rw [unhide HQ]; exact ps2)).mono ?_; rintro e w4 ⟨he, bb⟩; rw [unhide HQ] at he; subst he; have bW : Below w3.heap.size w3 w4 := below_of_drew bb; have qc0 : w4.cell? ⟨w.heap.size, 0, none⟩ = some (.slice (some ⟨x.ga, 0, none⟩) x.b.ac.length x.ca) := (bW.cell (p := ⟨w.heap.size, 0, none⟩) w3z).trans pc0; have qc1 : w4.cell? ⟨w.heap.size, 1, none⟩ = some (.slice (some ⟨x.gi, 0, none⟩) x.b.ic.length x.ci) := (bW.cell (p := ⟨w.heap.size, 1, none⟩) w3z).trans pc1; have qc2 : w4.cell? ⟨w.heap.size, 2, none⟩ = some (.slice (some ⟨x.gb, 0, none⟩) x.b.bs.length x.cb) := (bW.cell (p := ⟨w.heap.size, 2, none⟩) w3z).trans pc2; have qc3 : w4.cell? ⟨w.heap.size, 3, none⟩ = some (.slice (some ⟨x.gl, 0, none⟩) x.b.ls.length x.cl) := (bW.cell (p := ⟨w.heap.size, 3, none⟩) w3z).trans pc3; have qa0 : w4.cell? ⟨x.ga, j * 2, none⟩ = some (.int .i64 y0) := (bW.cell (p := ⟨x.ga, j * 2, none⟩) ga3).trans pa0; have qi0 : w4.cell? ⟨x.gi, k * 2, none⟩ = some (.int .i64 z0) := (bW.cell (p := ⟨x.gi, k * 2, none⟩) gi3).trans pi0) | (go_at_call 91; refine (Look.sOf w4 x.gb _ x.cb x.b.bs y0 z0 rfl nb ((unhide S3).r.below bW).rb).mono ?_; rintro e w5 ⟨he, rfl⟩; rw [unhide HV] at he; subst he))
                  have S4 := hide ((unhide S3).step bW)
                  clear bb bW qc0 qc1 qc2 qc3 qa0 qi0 pc0 pc1 pc2 pc3 pa0 pi0
                  by_cases q2 : QV = VV
                  · have G := hide ((unhide GOOD) ((unhide DEF2).2 q2))
                    have hq2 : (QV != VV) = false := by simp [q2]
                    clear BAD GOOD DEF2 q2
                    go_wp2
                    go_roundw
                    case rel => exact ⟨k + 1, by omega, by go_num, unhide S4, G⟩
                    case measure => simp [intOf]; omega
                  · have F := hide ((unhide BAD) (fun hh => q2 ((unhide DEF2).1 hh)))
                    have hq2 : (QV != VV) = true := by simp [q2]
                    clear BAD GOOD DEF2 T q2
                    go_wp2
                    go_ret
                    exact ⟨by rw [unhide F]; rfl, (unhide S4).b⟩
                · have G := hide ((unhide GOOD) ((unhide DEF).2 (fun _ e => absurd e q1)))
                  have hq0 : (y1 == 1) = true := by simp [q0]
                  have hq1 : (z1 == 2) = false := by simp [q1]
                  clear BAD GOOD DEF q0 q1
                  go_wp2
                  go_roundw
                  case rel => exact ⟨k + 1, by omega, by go_num, unhide S2, G⟩
                  case measure => simp [intOf]; omega
              · have G := hide ((unhide GOOD) ((unhide DEF).2 (fun e _ => absurd e q0)))
                have hq0 : (y1 == 1) = false := by simp [q0]
                clear BAD GOOD DEF q0
                go_wp2
                go_roundw
                case rel => exact ⟨k + 1, by omega, by go_num, unhide S2, G⟩
                case measure => simp [intOf]; omega
            · have G := hide (show ∀ j', j' < j + 1 → ∀ k, k < x.b.ic.length → Even x.b j' k from fun j' hj' k' hk' => by
                by_cases e : j' = j
                · subst e; exact (unhide HK) k' (by omega)
                · exact (unhide HG) j' (by omega) k' hk')
              have S2 := hide hS
              clear hS
              go_wp2
              go_roundw
              case rel => exact ⟨j + 1, by omega, by go_num, unhide S2, G⟩
              case measure => simp [intOf]; omega
        · have F := hide ((unhide T).of ((unhide IFF).2 (fun j' hj' k hk => (unhide HG) j' (by omega) k hk)))
          go_wp2
          go_ret
          exact ⟨by rw [unhide F]; rfl, (unhide S1).b⟩
end Go.Proofs.YteccbaohfmhnfaaGreat.SLots
namespace Go.Proofs.YteccbaohfmhnfaaGreat.SBooksOk
open Go.ChangeShapes Go.WideShapes Go.ChangeAt Go.RowKit BMem Bks IRead IHave ITrade ILists IBalsFit SBals SLots
open Lots (Says says_of NoOk)
open Tup8 (T8 el8)
theorem sOksA (w : World) (x : Bx) (ok : Bool) (h : Rd w x) (hok : Chart.Says ok 20 4 x.b.ac) : Calls Tryz.prog 50 #[.slice (some ⟨x.ga, 0, none⟩) x.b.ac.length x.ca] w fun e w' => e = .returned (.bool ok) ∧ Below w.heap.size w w' :=
  (AccountSOk.sOk w x.ga _ x.ca x.b.ac ok rfl h.na h.ra hok).mono fun e w' ⟨h1, q, h2⟩ => ⟨h1, by rw [h2]; exact below_drewN (Below.refl _ _) q⟩
theorem sOksI (w : World) (x : Bx) (ok : Bool) (h : Rd w x) (hok : Chart.Says ok 8 2 x.b.ic) : Calls Tryz.prog 51 #[.slice (some ⟨x.gi, 0, none⟩) x.b.ic.length x.ci] w fun e w' => e = .returned (.bool ok) ∧ Below w.heap.size w w' :=
  (InstrSOk.sOk w x.gi _ x.ci x.b.ic ok rfl h.ni h.ri hok).mono fun e w' ⟨h1, q, h2⟩ => ⟨h1, by rw [h2]; exact below_drewN (Below.refl _ _) q⟩
set_option maxRecDepth 100000 in
set_option maxHeartbeats 8000000 in
theorem sBooksOk (w : World) (x : Bx) (b : Bool) (h : Rd w x) (hb : Says b (Ok x.b)) :
    Calls Tryz.prog 16 #[.agg #[.slice (some ⟨x.ga, 0, none⟩) x.b.ac.length x.ca, .slice (some ⟨x.gi, 0, none⟩) x.b.ic.length x.ci, .slice (some ⟨x.gb, 0, none⟩) x.b.bs.length x.cb, .slice (some ⟨x.gl, 0, none⟩) x.b.ls.length x.cl, .slice (some ⟨x.gt, 0, none⟩) x.b.ts.length x.ct, .int .i64 x.b.lot]] w fun e w' => e = .returned (.bool b) ∧ Below w.heap.size w w' := by
  have T := hide hb
  have S0 := hide (St.start h 36)
  have nb := h.nb
  have nl := h.nl
  have nt := h.nt
  obtain ⟨b0, h0⟩ := Chart.says_of 20 4 x.b.ac
  obtain ⟨b1, h1⟩ := Chart.says_of 8 2 x.b.ic
  obtain ⟨b2, h2⟩ := Bals.says_of (Bals.Right x.b.bs)
  obtain ⟨b3, h3⟩ := says_of (Lots.Right x.b.ls)
  obtain ⟨b4, h4⟩ := says_of (TRight x.b.ts)
  obtain ⟨b5, h5⟩ := says_of (0 ≤ x.b.lot ∧ x.b.lot ≤ 1000000000)
  obtain ⟨b6, h6⟩ := says_of (BalsFit x.b)
  obtain ⟨b7, h7⟩ := says_of (LotsFit x.b)
  have H0 := hide h0
  have H1 := hide h1
  have H2 := hide h2
  have H3 := hide h3
  have H4 := hide h4
  have H5 := hide h5
  have H6 := hide h6
  have H7 := hide h7
  clear hb h h0 h1 h2 h3 h4 h5 h6 h7
  go_enter Tryz.func16, Tryz.ntmps16
  go_wp2_with fail
  refine (sOksA _ x b0 (unhide S0).r (unhide H0)).mono ?_
  rintro e w1 ⟨rfl, bb⟩
  have S1 := hide ((unhide S0).step bb)
  clear bb
  obtain ⟨c0, c1, c2, c3, c4, c5⟩ := (unhide S1).c
  cases b0
  · have F := hide ((unhide T).not (fun hh => (unhide H0).no hh.1.1))
    clear T
    go_wp2
    go_ret
    exact ⟨by rw [unhide F]; rfl, (unhide S1).b⟩
  go_wp2_with fail
  refine (sOksI _ x b1 (unhide S1).r (unhide H1)).mono ?_
  rintro e w2 ⟨rfl, bb⟩
  have S2 := hide ((unhide S1).step bb)
  clear bb
  clear c0 c1 c2 c3 c4 c5
  obtain ⟨c0, c1, c2, c3, c4, c5⟩ := (unhide S2).c
  cases b1
  · have F := hide ((unhide T).not (fun hh => (unhide H1).no hh.1.2.1))
    clear T
    go_wp2
    go_ret
    exact ⟨by rw [unhide F]; rfl, (unhide S2).b⟩
  go_wp2_with fail
  refine (SOk3.sOk _ x.gb _ x.cb x.b.bs b2 rfl nb (unhide S2).r.lb (unhide S2).r.rb (unhide H2)).mono ?_
  rintro e w3 ⟨rfl, bb⟩
  have S3 := hide ((unhide S2).step bb)
  clear bb
  clear c0 c1 c2 c3 c4 c5
  obtain ⟨c0, c1, c2, c3, c4, c5⟩ := (unhide S3).c
  cases b2
  · have F := hide ((unhide T).not (fun hh => (unhide H2).no hh.1.2.2.1))
    clear T
    go_wp2
    go_ret
    exact ⟨by rw [unhide F]; rfl, (unhide S3).b⟩
  go_wp2_with fail
  refine (SOk5.sOk _ x.gl _ x.cl x.b.ls b3 rfl nl (unhide S3).r.ll (unhide S3).r.rl (unhide H3)).mono ?_
  rintro e w4 ⟨rfl, bb⟩
  have S4 := hide ((unhide S3).step bb)
  clear bb
  clear c0 c1 c2 c3 c4 c5
  obtain ⟨c0, c1, c2, c3, c4, c5⟩ := (unhide S4).c
  cases b3
  · have F := hide ((unhide T).not (fun hh => (unhide H3).no hh.1.2.2.2.1))
    clear T
    go_wp2
    go_ret
    exact ⟨by rw [unhide F]; rfl, (unhide S4).b⟩
  go_wp2_with fail
  refine (ITrade.sOk _ x.gt _ x.ct x.b.ts b4 rfl nt (unhide S4).r.lt (unhide S4).r.rt (unhide H4)).mono ?_
  rintro e w5 ⟨rfl, bb⟩
  have S5 := hide ((unhide S4).step bb)
  clear bb
  clear c0 c1 c2 c3 c4 c5
  obtain ⟨c0, c1, c2, c3, c4, c5⟩ := (unhide S5).c
  cases b4
  · have F := hide ((unhide T).not (fun hh => (unhide H4).no hh.1.2.2.2.2.1))
    clear T
    go_wp2
    go_ret
    exact ⟨by rw [unhide F]; rfl, (unhide S5).b⟩
  go_wp2_with fail
  refine (SOk5.sIn x.b.lot 0 1000000000 b5 _ (unhide H5)).mono ?_
  rintro e w6 ⟨rfl, rfl⟩
  have S6 := S5
  cases b5
  · have F := hide ((unhide T).not (fun hh => (unhide H5).no hh.1.2.2.2.2.2))
    clear T
    go_wp2
    go_ret
    exact ⟨by rw [unhide F]; rfl, (unhide S6).b⟩
  have L := hide (show Lists x.b from ⟨(unhide H0).yes, (unhide H1).yes, (unhide H2).yes, (unhide H3).yes, (unhide H4).yes, (unhide H5).yes⟩)
  go_wp2_with fail
  refine (sBals _ x b6 (unhide S6).r (unhide L) (unhide H6)).mono ?_
  rintro e w7 ⟨rfl, bb⟩
  have S7 := hide ((unhide S6).step bb)
  clear bb
  clear c0 c1 c2 c3 c4 c5
  obtain ⟨c0, c1, c2, c3, c4, c5⟩ := (unhide S7).c
  cases b6
  · have F := hide ((unhide T).not (fun hh => (unhide H6).no hh.2.1))
    clear T
    go_wp2
    go_ret
    exact ⟨by rw [unhide F]; rfl, (unhide S7).b⟩
  go_wp2_with fail
  refine (sLots _ x b7 (unhide S7).r (unhide L) (unhide H7)).mono ?_
  rintro e w8 ⟨rfl, bb⟩
  have S8 := hide ((unhide S7).step bb)
  clear bb
  clear c0 c1 c2 c3 c4 c5
  obtain ⟨c0, c1, c2, c3, c4, c5⟩ := (unhide S8).c
  cases b7
  · have F := hide ((unhide T).not (fun hh => (unhide H7).no hh.2.2.1))
    clear T
    go_wp2
    go_ret
    exact ⟨by rw [unhide F]; rfl, (unhide S8).b⟩
  go_wp2
  go_loopw [3] (fun i wr => ∃ (k : Nat), k ≤ x.b.ts.length ∧ i = .int .i64 k ∧ St w wr x ∧ Hid (∀ j, j < k → TradeFit x.b (el8 x.b.ts j))) (fun i _ => x.b.ts.length - (intOf i).toNat)
  case atStart => exact ⟨0, by omega, rfl, unhide S8, hide (fun i hi => absurd hi (by omega))⟩
  case round =>
    obtain ⟨k, hk, rfl, hS, HG⟩ := hrel
    clear S0 S1 S2 S3 S4 S5 S6 S7 S8 c0 c1 c2 c3 c4 c5
    obtain ⟨c0, c1, c2, c3, c4, c5⟩ := hS.c
    by_cases t : k < x.b.ts.length
    · obtain ⟨d0, d1, d2, d3, d4, d5, d6, d7⟩ := (hS.r.rt k t)
      have BAD := hide (show ¬ TradeFit x.b (el8 x.b.ts k) → b = false from fun hr => (unhide T).not (fun r => hr (r.2.2.2 k t)))
      have GOOD := hide (show TradeFit x.b (el8 x.b.ts k) → ∀ i, i < k + 1 → TradeFit x.b (el8 x.b.ts i) from fun hr i hi => by
        by_cases e : i = k
        · subst e; exact hr
        · exact (unhide HG) i (by omega))
      have FIT := hide (show TradeFit x.b (el8 x.b.ts k) ↔ kindOf x.b.ac (el8 x.b.ts k).2.1 = 1 ∧ kindOf x.b.ac (el8 x.b.ts k).2.2.1 = 1 ∧ kindOf x.b.ic (el8 x.b.ts k).2.2.2.1 = 2 ∧ kindOf x.b.ic (el8 x.b.ts k).2.2.2.2.2.1 = 1 from Iff.rfl)
      have wz := hS.s
      have S1 := hide (hS.step (one_more wr (.cells #[.int .i64 (el8 x.b.ts k).1, .int .i64 (el8 x.b.ts k).2.1, .int .i64 (el8 x.b.ts k).2.2.1, .int .i64 (el8 x.b.ts k).2.2.2.1, .int .i64 (el8 x.b.ts k).2.2.2.2.1, .int .i64 (el8 x.b.ts k).2.2.2.2.2.1, .int .i64 (el8 x.b.ts k).2.2.2.2.2.2.1, .int .i64 (el8 x.b.ts k).2.2.2.2.2.2.2] 84)))
      clear hS
      generalize TradeFit x.b (el8 x.b.ts k) = FP at *
      generalize (el8 x.b.ts k).1 = y0 at *
      generalize (el8 x.b.ts k).2.1 = y1 at *
      generalize (el8 x.b.ts k).2.2.1 = y2 at *
      generalize (el8 x.b.ts k).2.2.2.1 = y3 at *
      generalize (el8 x.b.ts k).2.2.2.2.1 = y4 at *
      generalize (el8 x.b.ts k).2.2.2.2.2.1 = y5 at *
      generalize (el8 x.b.ts k).2.2.2.2.2.2.1 = y6 at *
      generalize (el8 x.b.ts k).2.2.2.2.2.2.2 = y7 at *
      generalize hK1 : kindOf x.b.ac y1 = K1 at *
      generalize hK2 : kindOf x.b.ac y2 = K2 at *
      generalize hK3 : kindOf x.b.ic y3 = K3 at *
      generalize hK4 : kindOf x.b.ic y5 = K4 at *
      have N1 := hide hK1
      have N2 := hide hK2
      have N3 := hide hK3
      have N4 := hide hK4
      clear hK1 hK2 hK3 hK4
      go_wp2_with fail
      refine (sKindA _ x y1 K1 (unhide S1).r (unhide L).1 (unhide N1)).mono ?_
      rintro e v1 ⟨rfl, bb⟩
      have S2 := hide ((unhide S1).step bb)
      have f2 : v1.cell? ⟨wr.heap.size, 2, none⟩ = some (.int .i64 y2) := (bb.cell (p := ⟨wr.heap.size, 2, none⟩) (by simp)).trans (by simp)
      have f3 : v1.cell? ⟨wr.heap.size, 3, none⟩ = some (.int .i64 y3) := (bb.cell (p := ⟨wr.heap.size, 3, none⟩) (by simp)).trans (by simp)
      have f5 : v1.cell? ⟨wr.heap.size, 5, none⟩ = some (.int .i64 y5) := (bb.cell (p := ⟨wr.heap.size, 5, none⟩) (by simp)).trans (by simp)
      have z1 : wr.heap.size < v1.heap.size := by have := bb.size; simp at this; omega
      clear d0 d1 d2 d3 d4 d5 d6 d7
      clear bb c0 c1 c2 c3 c4 c5
      obtain ⟨c0, c1, c2, c3, c4, c5⟩ := (unhide S2).c
      by_cases q1 : K1 = 1
      rotate_left
      · have F := hide ((unhide BAD) (fun hh => q1 ((unhide FIT).1 hh).1))
        have hq : (K1 != 1) = true := by simp [q1]
        clear BAD GOOD FIT T q1
        go_wp2
        go_ret
        exact ⟨by rw [unhide F]; rfl, (unhide S2).b⟩
      have hq1 : (K1 != 1) = false := by simp [q1]
      have Q1 := hide q1
      clear q1
      go_wp2_with fail
      refine (sKindA _ x y2 K2 (unhide S2).r (unhide L).1 (unhide N2)).mono ?_
      rintro e v2 ⟨rfl, bb⟩
      have S3 := hide ((unhide S2).step bb)
      replace f2 : v2.cell? ⟨wr.heap.size, 2, none⟩ = some (.int .i64 y2) := (bb.cell (p := ⟨wr.heap.size, 2, none⟩) z1).trans f2
      replace f3 : v2.cell? ⟨wr.heap.size, 3, none⟩ = some (.int .i64 y3) := (bb.cell (p := ⟨wr.heap.size, 3, none⟩) z1).trans f3
      replace f5 : v2.cell? ⟨wr.heap.size, 5, none⟩ = some (.int .i64 y5) := (bb.cell (p := ⟨wr.heap.size, 5, none⟩) z1).trans f5
      have z2 : wr.heap.size < v2.heap.size := Nat.lt_of_lt_of_le z1 bb.size
      clear bb c0 c1 c2 c3 c4 c5
      obtain ⟨c0, c1, c2, c3, c4, c5⟩ := (unhide S3).c
      by_cases q2 : K2 = 1
      rotate_left
      · have F := hide ((unhide BAD) (fun hh => q2 ((unhide FIT).1 hh).2.1))
        have hq : (K2 != 1) = true := by simp [q2]
        clear BAD GOOD FIT T q2
        go_wp2
        go_ret
        exact ⟨by rw [unhide F]; rfl, (unhide S3).b⟩
      have hq2 : (K2 != 1) = false := by simp [q2]
      have Q2 := hide q2
      clear q2
      go_wp2_with fail
      refine (sKindI _ x y3 K3 (unhide S3).r (unhide L).2.1 (unhide N3)).mono ?_
      rintro e v3 ⟨rfl, bb⟩
      have S4 := hide ((unhide S3).step bb)
      replace f2 : v3.cell? ⟨wr.heap.size, 2, none⟩ = some (.int .i64 y2) := (bb.cell (p := ⟨wr.heap.size, 2, none⟩) z2).trans f2
      replace f3 : v3.cell? ⟨wr.heap.size, 3, none⟩ = some (.int .i64 y3) := (bb.cell (p := ⟨wr.heap.size, 3, none⟩) z2).trans f3
      replace f5 : v3.cell? ⟨wr.heap.size, 5, none⟩ = some (.int .i64 y5) := (bb.cell (p := ⟨wr.heap.size, 5, none⟩) z2).trans f5
      have z3 : wr.heap.size < v3.heap.size := Nat.lt_of_lt_of_le z2 bb.size
      clear bb c0 c1 c2 c3 c4 c5
      obtain ⟨c0, c1, c2, c3, c4, c5⟩ := (unhide S4).c
      by_cases q3 : K3 = 2
      rotate_left
      · have F := hide ((unhide BAD) (fun hh => q3 ((unhide FIT).1 hh).2.2.1))
        have hq : (K3 != 2) = true := by simp [q3]
        clear BAD GOOD FIT T q3
        go_wp2
        go_ret
        exact ⟨by rw [unhide F]; rfl, (unhide S4).b⟩
      have hq3 : (K3 != 2) = false := by simp [q3]
      have Q3 := hide q3
      clear q3
      go_wp2_with fail
      refine (sKindI _ x y5 K4 (unhide S4).r (unhide L).2.1 (unhide N4)).mono ?_
      rintro e v4 ⟨rfl, bb⟩
      have S5 := hide ((unhide S4).step bb)
      clear bb c0 c1 c2 c3 c4 c5
      obtain ⟨c0, c1, c2, c3, c4, c5⟩ := (unhide S5).c
      by_cases q4 : K4 = 1
      rotate_left
      · have F := hide ((unhide BAD) (fun hh => q4 ((unhide FIT).1 hh).2.2.2))
        have hq : (K4 != 1) = true := by simp [q4]
        clear BAD GOOD FIT T q4
        go_wp2
        go_ret
        exact ⟨by rw [unhide F]; rfl, (unhide S5).b⟩
      have hq4 : (K4 != 1) = false := by simp [q4]
      have Q4 := hide q4
      clear q4
      have G := hide ((unhide GOOD) ((unhide FIT).2 ⟨unhide Q1, unhide Q2, unhide Q3, unhide Q4⟩))
      clear BAD GOOD FIT
      go_wp2
      go_roundw
      case rel => exact ⟨k + 1, by omega, by go_num, unhide S5, G⟩
      case measure => simp [intOf]; omega
    · have F := hide ((unhide T).of ⟨unhide L, (unhide H6).yes, (unhide H7).yes, fun j hj => (unhide HG) j (by omega)⟩)
      have S1 := hide hS
      clear hS
      go_wp2
      go_ret
      exact ⟨by rw [unhide F]; rfl, (unhide S1).b⟩
end Go.Proofs.YteccbaohfmhnfaaGreat.SBooksOk
namespace Go.Proofs.YteccbaohfmhnfaaGreat.IBooksOk
open Go.ChangeShapes Go.WideShapes Go.ChangeAt Go.RowKit BMem Bks IRead IHave ITrade ILists IBalsFit ILotsFit ITradesFit
open Lots (Says says_of NoOk)
set_option maxRecDepth 100000 in
set_option maxHeartbeats 2000000 in
theorem iBooksOk (w : World) (x : Bx) (b : Bool) (h : Rd w x) (hb : Says b (Ok x.b)) :
    Calls Tryz.prog 68 #[.agg #[.slice (some ⟨x.ga, 0, none⟩) x.b.ac.length x.ca, .slice (some ⟨x.gi, 0, none⟩) x.b.ic.length x.ci, .slice (some ⟨x.gb, 0, none⟩) x.b.bs.length x.cb, .slice (some ⟨x.gl, 0, none⟩) x.b.ls.length x.cl, .slice (some ⟨x.gt, 0, none⟩) x.b.ts.length x.ct, .int .i64 x.b.lot]] w fun e w' => e = .returned (.bool b) ∧ Below w.heap.size w w' := by
  have T := hide hb
  have S0 := hide (St.start h 36)
  obtain ⟨b0, h0⟩ := says_of (Lists x.b)
  obtain ⟨b1, h1⟩ := says_of (BalsFit x.b)
  obtain ⟨b2, h2⟩ := says_of (LotsFit x.b)
  obtain ⟨b3, h3⟩ := says_of (TradesFit x.b)
  have H0 := hide h0
  have H1 := hide h1
  have H2 := hide h2
  have H3 := hide h3
  clear hb h h0 h1 h2 h3
  go_enter Tryz.func68, Tryz.ntmps68
  go_wp2_with fail
  refine (iLists _ x b0 (unhide S0).r (unhide H0)).mono ?_
  rintro e w1 ⟨rfl, bb⟩
  have S1 := hide ((unhide S0).step bb)
  clear bb
  obtain ⟨c0, c1, c2, c3, c4, c5⟩ := (unhide S1).c
  cases b0
  · have F := hide ((unhide T).not (fun hh => (unhide H0).no hh.1))
    clear T
    go_wp2
    go_ret
    exact ⟨by rw [unhide F]; rfl, (unhide S1).b⟩
  go_wp2_with fail
  refine (iBalsFit _ x b1 (unhide S1).r (unhide H0).yes (unhide H1)).mono ?_
  rintro e w2 ⟨rfl, bb⟩
  have S2 := hide ((unhide S1).step bb)
  clear bb
  clear c0 c1 c2 c3 c4 c5
  obtain ⟨c0, c1, c2, c3, c4, c5⟩ := (unhide S2).c
  cases b1
  · have F := hide ((unhide T).not (fun hh => (unhide H1).no hh.2.1))
    clear T
    go_wp2
    go_ret
    exact ⟨by rw [unhide F]; rfl, (unhide S2).b⟩
  go_wp2_with fail
  refine (iLotsFit _ x b2 (unhide S2).r (unhide H0).yes (unhide H2)).mono ?_
  rintro e w3 ⟨rfl, bb⟩
  have S3 := hide ((unhide S2).step bb)
  clear bb
  clear c0 c1 c2 c3 c4 c5
  obtain ⟨c0, c1, c2, c3, c4, c5⟩ := (unhide S3).c
  cases b2
  · have F := hide ((unhide T).not (fun hh => (unhide H2).no hh.2.2.1))
    clear T
    go_wp2
    go_ret
    exact ⟨by rw [unhide F]; rfl, (unhide S3).b⟩
  go_wp2_with fail
  refine (iTradesFit _ x b3 (unhide S3).r (unhide H0).yes (unhide H3)).mono ?_
  rintro e w4 ⟨rfl, bb⟩
  have S4 := hide ((unhide S3).step bb)
  clear bb
  clear c0 c1 c2 c3 c4 c5
  obtain ⟨c0, c1, c2, c3, c4, c5⟩ := (unhide S4).c
  cases b3
  · have F := hide ((unhide T).not (fun hh => (unhide H3).no hh.2.2.2))
    clear T
    go_wp2
    go_ret
    exact ⟨by rw [unhide F]; rfl, (unhide S4).b⟩
  have F := hide ((unhide T).of ⟨(unhide H0).yes, (unhide H1).yes, (unhide H2).yes, (unhide H3).yes⟩)
  clear T
  go_wp2
  go_ret
  exact ⟨by rw [unhide F]; rfl, (unhide S4).b⟩
end Go.Proofs.YteccbaohfmhnfaaGreat.IBooksOk
