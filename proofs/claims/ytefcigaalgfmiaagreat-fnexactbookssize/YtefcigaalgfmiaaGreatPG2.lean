/- Texts of one proof, one behind the other: Tab, SOk3, Look, IBalsFit, AccountHelp, AccountMark, InstrHelp, InstrMark, BalHelp, LotHelp, TradeHelp, BHelp, BkEq, Opens, Opens3, Opens5, Opens8, OpensB, LawB, ByteH, VOB, Law13, SBytes, SPut11, SPuts11. -/
import Derived.Test.YtefcigaalgfmiaaGreatRows
import Derived.Test.YtefcigaalgfmiaaGreatPG1
import Derived.Maps.OwnOps
import Derived.Maps.RangeWalk
import Derived.Maps.Ext
import Derived.DeepKeys4
import Derived.WalkSmall
import Derived.Deep.RegionHeld3
import Derived.Deep.SlicePairs
import Derived.Lib.SmallJoins
import Derived.Deep.Slices
import Derived.Deep.Strs
import Derived.WalkKit
import Derived.ProofKit
import Derived.OpenShut
import Derived.Below
import Derived.BigQuiet
import Derived.Maps.AppendAt
set_option linter.unusedVariables false
set_option linter.unusedSimpArgs false
namespace Go.Proofs.YtefcigaalgfmiaaGreat.Tab
open Go.ChangeShapes Go.WideShapes Go.ChangeAt Go.RowKit Bals Triples
open Go.Maps (Keyed)
theorem laidOut : laidOutB Tryz.prog = true := by kernel_rfl
theorem row : (140 : TypeId) < Tryz.prog.types.size := of_decide_eq_true (by kernel_rfl)
theorem cells : Tryz.prog.cellsOf 140 = 2 := by kernel_rfl
theorem wide : (match Tryz.prog.underlying 140 with | some (.array _ _) | some (.struct _) => true | _ => false) = true := by rw [Tryz.underlying140]
theorem deep : Tryz.prog.keyTypeAt (Tryz.prog.types.size + 1) 140 = true := by kernel_rfl
set_option maxRecDepth 100000 in
theorem law : Keyed Tryz.prog 140 := Keyed.of_law (deep_law_laid laidOut (m := 2) (by omega) row (by kernel_rfl) wide)
theorem formed {c0 c1 : Value} : (Value.agg #[c0, c1]).formed Tryz.prog 140 = true := by simp [Value.formed, Tryz.underlying140, cells]
theorem zero (w : World) : (zeroValue 3).run Tryz.prog w = .ok (.int .i64 0) w := by kernel_rfl
/-- Two numbers of 64 bits. -/
def Wf (a i : Int) : Prop := (Lit.int .i64 a).wf = true ∧ (Lit.int .i64 i).wf = true
theorem wf_no {a i : Int} (ha : NoOk a) (hi : NoOk i) : Wf a i := by
  unfold NoOk at ha hi
  exact ⟨WalkArith.wf_i64 (by omega), WalkArith.wf_i64 (by omega)⟩
theorem wf_amt {x : Int} (h : Amt x) : (Lit.int .i64 x).wf = true := by
  unfold Amt at h
  exact WalkArith.wf_i64 (by omega)
/-- What a key reads as. -/
def kl (a i : Int) : Lit := .string (keyBytes [.int .i64 a, .int .i64 i])
theorem lits (a i : Int) (h : Wf a i) : Tryz.prog.keyLits (Tryz.prog.types.size + 1) 140 [.int .i64 a, .int .i64 i] = some [.int .i64 a, .int .i64 i] := by
  obtain ⟨m, hm⟩ : ∃ m, Tryz.prog.types.size = m + 1 := Nat.exists_eq_succ_of_ne_zero (Nat.ne_of_gt (Nat.lt_of_le_of_lt (Nat.zero_le _) row))
  rw [hm]
  have c3 : Tryz.prog.cellsOf 3 = 1 := by kernel_rfl
  simp [Program.keyLits, Tryz.underlying140, cells, c3, Tryz.underlying3, h.1, h.2]
theorem key_of {a i : Int} (h : Wf a i) : keyOf Tryz.prog 140 (.agg #[.int .i64 a, .int .i64 i]) = some (kl a i) := by
  have l := lits a i h
  unfold keyOf
  rw [Tryz.underlying140]
  have kt : Tryz.prog.keyType 140 = true := deep
  simp only [kt, formed, Bool.and_self, if_true]
  show Option.map _ (Tryz.prog.keyLits (Tryz.prog.types.size + 1) 140 [.int .i64 a, .int .i64 i]) = _
  rw [l]
  rfl
set_option maxRecDepth 100000 in
theorem key_inv {v : Value} {l : Lit} (h : keyOf Tryz.prog 140 v = some l) : ∃ x : Int × Int, v = .agg #[.int .i64 x.1, .int .i64 x.2] ∧ Wf x.1 x.2 ∧ l = kl x.1 x.2 := by
  obtain ⟨xs, L, rfl, h1, rfl⟩ := keyOf_top wide h
  obtain ⟨m, hm⟩ : ∃ m, Tryz.prog.types.size = m + 1 := Nat.exists_eq_succ_of_ne_zero (Nat.ne_of_gt (Nat.lt_of_le_of_lt (Nat.zero_le _) row))
  rw [hm] at h1
  have c3 : Tryz.prog.cellsOf 3 = 1 := by kernel_rfl
  obtain ⟨xs⟩ := xs
  match xs, h1 with
  | [], h1 => simp [Program.keyLits, Tryz.underlying140, cells] at h1
  | [_], h1 => simp [Program.keyLits, Tryz.underlying140, cells] at h1
  | _ :: _ :: _ :: _, h1 => simp [Program.keyLits, Tryz.underlying140, cells] at h1
  | [v0, v1], h1 =>
    cases v0 <;> cases v1 <;> simp [Program.keyLits, Tryz.underlying140, cells, c3, Tryz.underlying3] at h1
    rename_i q0 a q1 i
    by_cases c0 : q0 = .i64 ∧ (Lit.int .i64 a).wf = true
    · by_cases c1 : q1 = .i64 ∧ (Lit.int .i64 i).wf = true
      · obtain ⟨rfl, w0⟩ := c0
        obtain ⟨rfl, w1⟩ := c1
        simp [w0, w1] at h1
        subst h1
        exact ⟨(a, i), rfl, ⟨w0, w1⟩, rfl⟩
      · simp [c0, c1] at h1
    · simp [c0] at h1
theorem kl_inj {a i b j : Int} (h : Wf a i) (k : Wf b j) (e : kl a i = kl b j) : a = b ∧ i = j := by
  have := law.inj (key_of h) (e ▸ key_of k)
  simpa using this
theorem kl_key {a i : Int} (h : Wf a i) : WideAt.IsKeyLit (kl a i) := law.key (key_of h)
abbrev D0 : Type := DataW Unit
/-- The datum tells f. -/
def Tells (D : D0) (f : Int → Int → Int) : Prop := (∀ a i, Wf a i → D.atKey (kl a i) (.lit (.int .i64 0)) = .lit (.int .i64 (f a i))) ∧ ∀ a i, f a i ≠ 0 → Wf a i
/-- Block B is a table of at most n entries that tells f. -/
def Tab (w : World) (B n : Nat) (f : Int → Int → Int) : Prop := ∃ D : D0, w.ownsMap Tryz.prog 140 (plainElem Tryz.prog 3) B n D ∧ Tells D f
theorem tab_made (w : World) : Tab (w.alloc (.map #[] 0)) w.heap.size 0 (fun _ _ => 0) :=
  ⟨.map [], World.ownsMap_made _ _ _ _, fun a i h => rfl, fun a i h => absurd rfl h⟩
theorem Tab.lt {w : World} {B n : Nat} {f : Int → Int → Int} (h : Tab w B n f) : B < w.heap.size := by
  obtain ⟨D, h1, _⟩ := h
  exact h1.lt
theorem Tab.kept {w w' : World} {B n : Nat} {f : Int → Int → Int} {row : Option Nat} (h : Tab w B n f) (hg : w.grownBy w' row) (hne : some B ≠ row) : Tab w' B n f := by
  obtain ⟨D, h1, h2⟩ := h
  exact ⟨D, h1.kept hg hne, h2⟩
theorem below_grown {b : Nat} {w w' : World} (h : Below b w w') (hb : b = w.heap.size) : w.grownBy w' none := by
  subst hb
  exact ⟨h.os, h.tape, h.output, h.size, fun k hk _ => h.block k hk⟩
theorem Tab.below {w w' : World} {B n : Nat} {f : Int → Int → Int} (h : Tab w B n f) (k : Below w.heap.size w w') : Tab w' B n f := h.kept (below_grown k rfl) (by simp)
theorem Tab.congr {w : World} {B n : Nat} {f g : Int → Int → Int} (h : Tab w B n f) (e : ∀ a i, f a i = g a i) : Tab w B n g := by
  have : f = g := funext fun a => funext fun i => e a i
  exact this ▸ h
theorem tells_put {D : D0} {f : Int → Int → Int} (h : Tells D f) (hD : Maps.IsMap D) {a i v : Int} (hw : Wf a i) : Tells (D.put (kl a i) (.lit (.int .i64 v))) (upd f a i v) := by
  refine ⟨fun b j hb => ?_, fun b j hb => ?_⟩
  · by_cases e : b = a ∧ j = i
    · obtain ⟨rfl, rfl⟩ := e
      rw [upd_same, Maps.atKey_put_same hD (kl_key hw)]
    · rw [upd_other _ _ _ _ _ _ e, Maps.atKey_put_other (fun q => e (kl_inj hb hw q)), h.1 b j hb]
  · by_cases e : b = a ∧ j = i
    · obtain ⟨rfl, rfl⟩ := e
      exact hw
    · rw [upd_other _ _ _ _ _ _ e] at hb
      exact h.2 b j hb
theorem isMap_of {w : World} {k : TypeId} {R : Value → Option (D0 × List MemPlace)} {B n : Nat} {D : D0} (h : w.ownsMap Tryz.prog k R B n D) : Maps.IsMap D := by
  obtain ⟨es, clock, _, _, _, rfl⟩ := h
  exact ⟨_, rfl⟩
/-- A store, at the operation. -/
theorem wp_put (w : World) {ops : Array Oper} {rest : List Oper} {o : Oper} {s : Act} {Q : Exit → Act → World → Prop}
    (hg : o.guard = none) (m x y : Operand) (t : TypeId) (hop : o.op = Op.mapUpdate t m x y) (ht : Tryz.prog.underlying t = some (.map 140 3)) (B n : Nat) (f : Int → Int → Int) (hm : s.eval m = .map (some B)) (hown : Tab w B n f) (hn : n ≤ 1048576)
    (a i v : Int) (hx : s.eval x = .agg #[.int .i64 a, .int .i64 i]) (hy : s.eval y = .int .i64 v) (hw : Wf a i) (hv : (Lit.int .i64 v).wf = true)
    (hK : ∀ w', Tab w' B (n + 1) (upd f a i v) → w.grownBy w' (some B) → wpList Tryz.prog ops Q rest (s.put o.dst undef) w') : wpList Tryz.prog ops Q (o :: rest) s w := by
  obtain ⟨D, h1, h2⟩ := hown
  refine wpList_mapUpdate_own w hg m x y t hop 140 3 law ht _ B n D hm h1 (by unfold maxLen; omega) _ _ (kl a i) hx hy (key_of hw) (.lit (.int .i64 v)) [] (plainElem_int Tryz.underlying3 hv) ?_
  intro w' h3 h4
  exact hK w' ⟨_, h3, tells_put h2 (isMap_of h1) hw⟩ h4
/-- Block B is a table that tells f, block r goes over it; left: the keys still to come. -/
def RTab (w : World) (B r n : Nat) (f : Int → Int → Int) (left : Int → Int → Bool) (cnt : Nat) : Prop :=
  ∃ (D : D0) (lf : Lit → Bool), w.ranges Tryz.prog 140 (plainElem Tryz.prog 3) B r n D lf cnt ∧ Tells D f ∧ ∀ a i, Wf a i → left a i = lf (kl a i)
theorem RTab.lt {w : World} {B r n : Nat} {f : Int → Int → Int} {left : Int → Int → Bool} {cnt : Nat} (h : RTab w B r n f left cnt) : B < w.heap.size ∧ r < w.heap.size ∧ r ≠ B ∧ w.rangeLeft B r = cnt := by
  obtain ⟨D, lf, h1, _⟩ := h
  exact ⟨h1.owns.lt, h1.lt, h1.ne, h1.left_eq⟩
theorem RTab.kept {w w' : World} {B r n : Nat} {f : Int → Int → Int} {left : Int → Int → Bool} {cnt : Nat} {row : Option Nat} (h : RTab w B r n f left cnt) (hg : w.grownBy w' row) (hb : some B ≠ row) (hr : some r ≠ row) : RTab w' B r n f left cnt := by
  obtain ⟨D, lf, h1, h2⟩ := h
  exact ⟨D, lf, h1.kept hg hb hr, h2⟩
/-- 'range', at the operation. -/
theorem wp_range (w : World) {ops : Array Oper} {rest : List Oper} {o : Oper} {s : Act} {Q : Exit → Act → World → Prop}
    (hg : o.guard = none) (m : Operand) (t : TypeId) (hop : o.op = Op.range t m) (ht : Tryz.prog.underlying t = some (.map 140 3)) (B n : Nat) (f : Int → Int → Int) (hm : s.eval m = .map (some B)) (hown : Tab w B n f)
    (hK : ∀ w' left cnt, RTab w' B w.heap.size n f left cnt → cnt ≤ n → (∀ a i, f a i ≠ 0 → left a i = true) → w.grownBy w' none → w'.heap.size = w.heap.size + 1 → wpList Tryz.prog ops Q rest (s.put o.dst (.pointer (some ⟨w.heap.size, 0, none⟩))) w') : wpList Tryz.prog ops Q (o :: rest) s w := by
  obtain ⟨D, h1, h2⟩ := hown
  refine wpList_range_own w hg m t hop 140 3 law ht _ B n D hm h1 ?_
  intro w' h3 h4 h5
  refine hK w' (fun a i => Maps.has D (kl a i)) (Maps.size D) ⟨D, Maps.has D, h3, h2, fun a i _ => rfl⟩ ?_ ?_ h4 h5
  · obtain ⟨es, clock, _, _, hs, rfl⟩ := h1
    rw [Maps.size_eq, length_sorted]
    simpa using hs
  · intro a i hf
    refine Classical.byContradiction fun nh => ?_
    have nh : Maps.has D (kl a i) = false := by simpa using nh
    have e := h2.1 a i (h2.2 a i hf)
    rw [Maps.atKey_of_not_has nh] at e
    have : (0 : Int) = f a i := by simpa using e
    exact hf this.symm
set_option maxRecDepth 100000 in
/-- The step, at the operation. -/
theorem wp_next (w : World) {ops : Array Oper} {rest : List Oper} {o : Oper} {s : Act} {Q : Exit → Act → World → Prop}
    (hg : o.guard = none) (it : Operand) (hop : o.op = Op.next it false) (B r n : Nat) (f : Int → Int → Int) (left : Int → Int → Bool) (cnt : Nat) (hit : s.eval it = .pointer (some ⟨r, 0, none⟩)) (h : RTab w B r n f left cnt)
    (hDone : cnt = 0 → (∀ a i, Wf a i → left a i = false) → wpList Tryz.prog ops Q rest (s.put o.dst (.tuple #[.bool false])) w)
    (hMore : ∀ (a i : Int) (w' : World) (left' : Int → Int → Bool) (cnt' : Nat), Wf a i → (Lit.int .i64 (f a i)).wf = true → left a i = true → (∀ b j, Wf b j → left' b j = (left b j && !decide (b = a ∧ j = i))) → RTab w' B r n f left' cnt' → cnt' < cnt → w.grownBy w' (some r) → w'.heap.size = w.heap.size →
      (Instr.entry (.pointer (some ⟨r, 0, none⟩))).run Tryz.prog w' = .ok (.tuple #[.agg #[.int .i64 a, .int .i64 i], .int .i64 (f a i)]) w' → wpList Tryz.prog ops Q rest (s.put o.dst (.tuple #[.bool true, .agg #[.int .i64 a, .int .i64 i], .int .i64 (f a i)])) w') :
    wpList Tryz.prog ops Q (o :: rest) s w := by
  obtain ⟨D, lf, h1, h2, h3⟩ := h
  refine wpList_next_ranges (α := Int × Int) (β := Int) w hg it hop 140 law (plainElem Tryz.prog 3) (fun x => .agg #[.int .i64 x.1, .int .i64 x.2]) (Value.int .i64) (fun key l hk => by obtain ⟨x, e, _⟩ := key_inv hk; exact ⟨x, e⟩) (fun v y hv => by obtain ⟨c, rfl, _⟩ := plainElem_int_inv Tryz.underlying3 hv; exact ⟨c, rfl⟩) B r n D lf cnt hit h1 ?_ ?_
  · intro h4 h5
    exact hDone h4 (fun a i hw => by rw [h3 a i hw, h5])
  · intro x c l y w' cnt' hkey hlk hv hat hrg hlt hgr hsz hen
    obtain ⟨⟨a, i⟩, e, hw, rfl⟩ := key_inv hkey
    obtain ⟨c', ec, rfl, hwc⟩ := plainElem_int_inv Tryz.underlying3 hv
    cases ec
    obtain ⟨x1, x2⟩ := x
    obtain ⟨rfl, rfl⟩ : x1 = a ∧ x2 = i := by simpa using e
    have ef : f x1 x2 = c := by
      have := h2.1 x1 x2 hw
      rw [hat] at this
      simpa using this.symm
    subst ef
    refine hMore x1 x2 w' (fun b j => lf (kl b j) && !(kl b j).sameKey (kl x1 x2)) cnt' hw hwc (by rw [h3 x1 x2 hw]; exact hlk) (fun b j hb => ?_) ⟨D, _, hrg, h2, fun b j _ => rfl⟩ hlt hgr hsz hen
    rw [h3 b j hb]
    congr 2
    by_cases q : b = x1 ∧ j = x2
    · obtain ⟨rfl, rfl⟩ := q
      rw [WideAt.sameKey_self (kl_key hb)]
      simp
    · rw [Maps.sameKey_ne (fun e => q (kl_inj hb hw e))]
      simp [q]
end Go.Proofs.YtefcigaalgfmiaaGreat.Tab
namespace Go.Proofs.YtefcigaalgfmiaaGreat.SOk3
open Go.ChangeShapes Go.WideShapes Go.ChangeAt Go.RowKit Bals Triples
theorem sIn (x lo hi : Int) (b : Bool) (w : World) (hb : Says b (lo ≤ x ∧ x ≤ hi)) :
    Calls Tryz.prog 45 #[.int .i64 x, .int .i64 lo, .int .i64 hi] w fun e w' => e = .returned (.bool b) ∧ w' = w := by
  by_cases h1 : lo ≤ x
  · by_cases h2 : x ≤ hi
    · obtain rfl : b = true := hb.of ⟨h1, h2⟩
      clear hb
      go_enter Tryz.func45, Tryz.ntmps45
      go_wp2
      go_ret
      exact ⟨rfl, rfl⟩
    · obtain rfl : b = false := hb.not (fun r => h2 r.2)
      clear hb
      go_enter Tryz.func45, Tryz.ntmps45
      go_wp2
      go_ret
      exact ⟨rfl, rfl⟩
  · obtain rfl : b = false := hb.not (fun r => h1 r.1)
    clear hb
    go_enter Tryz.func45, Tryz.ntmps45
    go_wp2
    go_ret
    exact ⟨rfl, rfl⟩
theorem sNo (x : Int) (b : Bool) (w : World) (hb : Says b (NoOk x)) :
    Calls Tryz.prog 62 #[.int .i64 x] w fun e w' => e = .returned (.bool b) ∧ w' = w := by
  go_enter Tryz.func62, Tryz.ntmps62
  go_wp2_with fail
  refine (sIn x 1 1000 b _ hb).mono ?_
  rintro e w' ⟨rfl, rfl⟩
  go_wp2
  go_ret
  exact ⟨rfl, rfl⟩
theorem sAmt (x : Int) (b : Bool) (w : World) (hb : Says b (Amt x)) :
    Calls Tryz.prog 63 #[.int .i64 x] w fun e w' => e = .returned (.bool b) ∧ w' = w := by
  go_enter Tryz.func63, Tryz.ntmps63
  go_wp2_with fail
  refine (sIn x (-1000000000000000) 1000000000000000 b _ hb).mono ?_
  rintro e w' ⟨rfl, rfl⟩
  go_wp2
  go_ret
  exact ⟨rfl, rfl⟩
theorem sBefore (a i c j : Int) (b : Bool) (w : World) (hb : Says b (a < c ∨ (a = c ∧ i < j))) :
    Calls Tryz.prog 64 #[.int .i64 a, .int .i64 i, .int .i64 c, .int .i64 j] w fun e w' => e = .returned (.bool b) ∧ w' = w := by
  by_cases h1 : a < c
  · obtain rfl : b = true := hb.of (.inl h1)
    clear hb
    go_enter Tryz.func64, Tryz.ntmps64
    go_wp2
    go_ret
    exact ⟨rfl, rfl⟩
  · by_cases h2 : a = c
    · subst h2
      by_cases h3 : i < j
      · obtain rfl : b = true := hb.of (.inr ⟨rfl, h3⟩)
        clear hb
        go_enter Tryz.func64, Tryz.ntmps64
        go_wp2
        go_ret
        exact ⟨rfl, rfl⟩
      · obtain rfl : b = false := hb.not (fun r => by omega)
        clear hb
        go_enter Tryz.func64, Tryz.ntmps64
        go_wp2
        go_ret
        exact ⟨rfl, rfl⟩
    · obtain rfl : b = false := hb.not (fun r => by omega)
      clear hb
      go_enter Tryz.func64, Tryz.ntmps64
      go_wp2
      go_ret
      exact ⟨rfl, rfl⟩
theorem one_more (w : World) (o : Obj) : Below w.heap.size w (w.alloc o) := (Below.refl _ _).alloc (Nat.le_refl _) _
set_option maxRecDepth 100000 in
set_option maxHeartbeats 4000000 in
theorem sOk (w : World) (g n cap : Nat) (ps : List T3) (ok : Bool) (hl : ps.length = n) (h20 : n ≤ 1048576) (hg : g < w.heap.size) (h : At3 w g ps) (hok : Says ok (Right ps)) :
    Calls Tryz.prog 42 #[.slice (some ⟨g, 0, none⟩) n cap] w fun e w' => e = .returned (.bool ok) ∧ Below w.heap.size w w' := by
  by_cases nn : (160 : Int) < (n : Int)
  · obtain rfl : ok = false := hok.not (fun r => by have := r.1; omega)
    clear hok h
    go_enter Tryz.func42, Tryz.ntmps42
    go_wp2
    go_ret
    exact ⟨rfl, Below.refl _ _⟩
  have H := hide h
  clear h
  go_enter Tryz.func42, Tryz.ntmps42
  go_wp2
  go_loopw [3, 4] (fun i _ wr => ∃ (k : Nat), k ≤ n ∧ i = .int .i64 k ∧ Below w.heap.size w wr ∧ Hid (∀ i, i < k → RowOk ps i)) (fun i _ _ => n - (intOf i).toNat)
  case atStart => exact ⟨0, by omega, rfl, Below.refl _ _, hide (fun i hi => absurd hi (by omega))⟩
  case round =>
    obtain ⟨k, hk, rfl, hb, HG⟩ := hrel
    by_cases t : k < n
    · have hA := (unhide H).below hb hg
      obtain ⟨e1, e2, e3⟩ := hA k (by omega)
      have e4 : 0 < k → wr.cell? ⟨g, (k - 1) * 3, none⟩ = some (.int .i64 (el3 ps (k - 1)).1) := fun k0 => (hA (k - 1) (by omega)).1
      have e5 : 0 < k → wr.cell? ⟨g, (k - 1) * 3 + 1, none⟩ = some (.int .i64 (el3 ps (k - 1)).2.1) := fun k0 => (hA (k - 1) (by omega)).2.1
      have gs : g < wr.heap.size := Nat.lt_of_lt_of_le hg hb.size
      have gne : g ≠ wr.heap.size := by omega
      clear hA
      have HB := hide hb
      clear hb
      obtain ⟨b1, B1⟩ := says_of (NoOk (el3 ps k).1)
      obtain ⟨b2, B2⟩ := says_of (NoOk (el3 ps k).2.1)
      obtain ⟨b3, B3⟩ := says_of (Amt (el3 ps k).2.2)
      obtain ⟨b4, B4⟩ := says_of ((el3 ps (k - 1)).1 < (el3 ps k).1 ∨ ((el3 ps (k - 1)).1 = (el3 ps k).1 ∧ (el3 ps (k - 1)).2.1 < (el3 ps k).2.1))
      have ROW := hide (show RowOk ps k ↔ (b1 = true) ∧ (b2 = true) ∧ (b3 = true) ∧ (el3 ps k).2.2 ≠ 0 ∧ (0 < k → b4 = true) from by unfold Says at B1 B2 B3 B4; rw [B1, B2, B3, B4]; exact Iff.rfl)
      have BAD := hide (show ¬ RowOk ps k → ok = false from fun hr => hok.not (fun r => hr (r.2 k (by omega))))
      have GOOD := hide (show RowOk ps k → ∀ i, i < k + 1 → RowOk ps i from fun hr i hi => by
        by_cases e : i = k
        · subst e; exact hr
        · exact (unhide HG) i (by omega))
      generalize (el3 ps k).1 = x at *
      generalize (el3 ps k).2.1 = y at *
      generalize (el3 ps k).2.2 = z at *
      generalize (el3 ps (k - 1)).1 = u at *
      generalize (el3 ps (k - 1)).2.1 = v at *
      have NB := hide (fun m => next (unhide HB) (below_drewN (one_more wr (.cells #[.int .i64 x, .int .i64 y, .int .i64 z] 85)) m))
      cases b1
      · clear e4 e5 B4
        have OKF := hide ((unhide BAD) (fun hr => by have := (unhide ROW).1 hr; cases this.1))
        clear BAD GOOD ROW
        go_wp2_with fail
        go_quiet (first | (go_at_call 62; refine Calls.quiet_of_same (sNo _ false _ B1)))
        go_wp2
        go_ret
        exact ⟨by rw [unhide OKF]; rfl, (unhide NB) _⟩
      · cases b2
        · clear e4 e5 B4
          have OKF := hide ((unhide BAD) (fun hr => by have := (unhide ROW).1 hr; cases this.2.1))
          clear BAD GOOD ROW
          go_wp2_with fail
          go_quiet (first | (go_at_call 62; refine Calls.quiet_of_same (sNo _ true _ B1)) | (go_at_call 62; refine Calls.quiet_of_same (sNo _ false _ B2)))
          go_wp2
          go_ret
          exact ⟨by rw [unhide OKF]; rfl, (unhide NB) _⟩
        · cases b3
          · clear e4 e5 B4
            have OKF := hide ((unhide BAD) (fun hr => by have := (unhide ROW).1 hr; cases this.2.2.1))
            clear BAD GOOD ROW
            go_wp2_with fail
            go_quiet (first | (go_at_call 62; refine Calls.quiet_of_same (sNo _ true _ B1)) | (go_at_call 62; refine Calls.quiet_of_same (sNo _ true _ B2)) | (go_at_call 63; refine Calls.quiet_of_same (sAmt _ false _ B3)))
            go_wp2
            go_ret
            exact ⟨by rw [unhide OKF]; rfl, (unhide NB) _⟩
          · by_cases z0 : z = 0
            · subst z0
              clear e4 e5 B4
              have OKF := hide ((unhide BAD) (fun hr => by have := (unhide ROW).1 hr; exact this.2.2.2.1 rfl))
              clear BAD GOOD ROW
              go_wp2_with fail
              go_quiet (first | (go_at_call 62; refine Calls.quiet_of_same (sNo _ true _ B1)) | (go_at_call 62; refine Calls.quiet_of_same (sNo _ true _ B2)) | (go_at_call 63; refine Calls.quiet_of_same (sAmt _ true _ B3)))
              go_wp2
              go_ret
              exact ⟨by rw [unhide OKF]; rfl, (unhide NB) _⟩
            · have zb : (z == 0) = false := by simpa using z0
              by_cases k0 : 0 < k
              · have e4 := e4 k0
                have e5 := e5 k0
                have k1 : (0 : Int) < (k : Int) := by omega
                have k2 : (0 : Int) ≤ (k : Int) - 1 := by omega
                have k3 : ((k : Int) - 1).toNat = k - 1 := by omega
                have k4 : IntKind.i64.wrap ((k : Int) - 1) = (k : Int) - 1 := by rw [IntKind.wrap_i64]; omega
                have k5 : (k : Int) - 1 < (n : Int) := by omega
                cases b4
                · have OKF := hide ((unhide BAD) (fun hr => by have := (unhide ROW).1 hr; cases this.2.2.2.2 k0))
                  clear BAD GOOD ROW
                  go_wp2_with fail
                  go_quiet (first | (go_at_call 62; refine Calls.quiet_of_same (sNo _ true _ B1)) | (go_at_call 62; refine Calls.quiet_of_same (sNo _ true _ B2)) | (go_at_call 63; refine Calls.quiet_of_same (sAmt _ true _ B3)) | (go_at_call 64; refine Calls.quiet_of_same (sBefore _ _ _ _ false _ B4)))
                  go_wp2
                  go_ret
                  exact ⟨by rw [unhide OKF]; rfl, (unhide NB) _⟩
                · have GO := hide ((unhide GOOD) ((unhide ROW).2 ⟨rfl, rfl, rfl, z0, fun _ => rfl⟩))
                  clear BAD GOOD ROW
                  go_wp2_with fail
                  go_quiet (first | (go_at_call 62; refine Calls.quiet_of_same (sNo _ true _ B1)) | (go_at_call 62; refine Calls.quiet_of_same (sNo _ true _ B2)) | (go_at_call 63; refine Calls.quiet_of_same (sAmt _ true _ B3)) | (go_at_call 64; refine Calls.quiet_of_same (sBefore _ _ _ _ true _ B4)))
                  go_wp2
                  go_roundw
                  case rel => exact ⟨k + 1, by omega, by go_num, (unhide NB) _, GO⟩
                  case measure => simp [intOf]; omega
              · obtain rfl : k = 0 := by omega
                clear e4 e5 B4
                have GO := hide ((unhide GOOD) ((unhide ROW).2 ⟨rfl, rfl, rfl, z0, fun h0 => absurd h0 k0⟩))
                clear BAD GOOD ROW
                go_wp2_with fail
                go_quiet (first | (go_at_call 62; refine Calls.quiet_of_same (sNo _ true _ B1)) | (go_at_call 62; refine Calls.quiet_of_same (sNo _ true _ B2)) | (go_at_call 63; refine Calls.quiet_of_same (sAmt _ true _ B3)))
                go_wp2
                go_roundw
                case rel => exact ⟨1, by omega, by go_num, (unhide NB) _, GO⟩
                case measure => simp [intOf]; omega
    · obtain rfl : k = n := by omega
      obtain rfl : ok = true := hok.of ⟨by omega, by rw [hl]; exact unhide HG⟩
      have HB := hide hb
      clear hb hok
      go_wp2
      go_ret
      exact ⟨rfl, unhide HB⟩
end Go.Proofs.YtefcigaalgfmiaaGreat.SOk3
namespace Go.Proofs.YtefcigaalgfmiaaGreat.Look
open Go.ChangeShapes Go.WideShapes Go.ChangeAt Go.RowKit Bals Triples Cmp SOk3 IOk3 Tab
theorem drop_next {ps : List T3} {k : Nat} (h : k < ps.length) : ps.drop k = el3 ps k :: ps.drop (k + 1) := by
  rw [List.drop_eq_getElem_cons h]
  simp [el3, List.getD, h]
theorem val_hit {ps : List T3} {k : Nat} {a i : Int} (h : k < ps.length) (e : (el3 ps k).1 = a ∧ (el3 ps k).2.1 = i) : val (ps.drop k) a i = (el3 ps k).2.2 := by
  rw [drop_next h]
  unfold val
  rw [if_pos e]
theorem val_miss {ps : List T3} {k : Nat} {a i : Int} (h : k < ps.length) (e : ¬ ((el3 ps k).1 = a ∧ (el3 ps k).2.1 = i)) : val (ps.drop k) a i = val (ps.drop (k + 1)) a i := by
  rw [drop_next h, val, if_neg e]
set_option maxRecDepth 100000 in
theorem sOf (w : World) (g n cap : Nat) (ps : List T3) (a i : Int) (hl : ps.length = n) (h20 : n ≤ 1048576) (h : At3 w g ps) :
    Calls Tryz.prog 71 #[.slice (some ⟨g, 0, none⟩) n cap, .int .i64 a, .int .i64 i] w fun e w' => e = .returned (.int .i64 (val ps a i)) ∧ w' = w := by
  go_enter Tryz.func71, Tryz.ntmps71
  go_wp2
  go_loop [7] (fun j => ∃ (k : Nat), k ≤ n ∧ j = .int .i64 k ∧ Hid (val ps a i = val (ps.drop k) a i)) (fun j => n - (intOf j).toNat)
  case atStart => exact ⟨0, by omega, rfl, hide rfl⟩
  case round =>
    obtain ⟨k, hk, rfl, HV⟩ := hrel
    by_cases t : k < n
    · obtain ⟨e1, e2, e3⟩ := h k (by omega)
      have HIT := hide (val_hit (ps := ps) (k := k) (a := a) (i := i) (by omega))
      have MISS := hide (val_miss (ps := ps) (k := k) (a := a) (i := i) (by omega))
      clear h
      generalize (el3 ps k).1 = x at *
      generalize (el3 ps k).2.1 = y at *
      generalize (el3 ps k).2.2 = z at *
      by_cases c1 : x = a
      · by_cases c2 : y = i
        · have V := hide ((unhide HV).trans ((unhide HIT) ⟨c1, c2⟩))
          clear HIT MISS HV
          subst c1 c2
          go_wp2
          go_ret
          exact ⟨by rw [unhide V]; rfl, rfl⟩
        · have V := hide ((unhide HV).trans ((unhide MISS) (fun r => c2 r.2)))
          clear HIT MISS HV
          have c2b : (y == i) = false := by simpa using c2
          subst c1
          go_wp2
          go_round
          case rel => exact ⟨k + 1, by omega, by go_num, V⟩
          case measure => simp [intOf]; omega
      · have V := hide ((unhide HV).trans ((unhide MISS) (fun r => c1 r.1)))
        clear HIT MISS HV
        have c1b : (x == a) = false := by simpa using c1
        go_wp2
        go_round
        case rel => exact ⟨k + 1, by omega, by go_num, V⟩
        case measure => simp [intOf]; omega
    · obtain rfl : k = n := by omega
      have V := hide ((unhide HV).trans (show val (ps.drop k) a i = 0 by rw [List.drop_of_length_le (by omega)]; rfl))
      clear HV h
      go_wp2
      go_ret
      exact ⟨by rw [unhide V]; rfl, rfl⟩
theorem val_more (p : T3) : ∀ (l : List T3), (∀ q ∈ l, Bef q p) → ∀ a i, val (l ++ [p]) a i = upd (val l) p.1 p.2.1 p.2.2 a i
  | [], _, a, i => by
    unfold upd
    simp only [List.nil_append, val]
    by_cases e : p.1 = a ∧ p.2.1 = i
    · rw [if_pos e, if_pos ⟨e.1.symm, e.2.symm⟩]
    · rw [if_neg e, if_neg (fun r => e ⟨r.1.symm, r.2.symm⟩)]
  | q :: r, h, a, i => by
    have ih := val_more p r (fun x hx => h x (List.mem_cons_of_mem _ hx)) a i
    have b := h q List.mem_cons_self
    unfold upd at ih ⊢
    simp only [List.cons_append, val, ih]
    by_cases e : q.1 = a ∧ q.2.1 = i
    · rw [if_pos e, if_pos e, if_neg (fun r => by unfold Bef at b; omega)]
    · rw [if_neg e, if_neg e]
theorem val_take {ps : List T3} (h : Right ps) {k : Nat} (hk : k < ps.length) : ∀ a i, val (ps.take (k + 1)) a i = upd (val (ps.take k)) (el3 ps k).1 (el3 ps k).2.1 (el3 ps k).2.2 a i := by
  rw [take_next hk]
  refine val_more _ _ (fun q hq => ?_)
  obtain ⟨j, hj, rfl⟩ := mem_getD hq
  have hj' : j < k := by simp at hj; omega
  have := h.asc k j hj' hk
  simpa [el3, List.getD, hj', show j < ps.length by omega] using this
theorem sTold (x : Int) (b c : Bool) (r : Int) (w : World) (h : (b = true ∧ Amt x ∧ r = x ∧ c = true) ∨ (¬ (b = true ∧ Amt x) ∧ r = 0 ∧ c = false)) :
    Calls Tryz.prog 73 #[.int .i64 x, .bool b] w fun e w' => e = .returned (.tuple #[.int .i64 r, .bool c]) ∧ w' = w := by
  obtain ⟨d, D⟩ := says_of (Amt x)
  cases b
  · rcases h with ⟨h1, _⟩ | ⟨_, rfl, rfl⟩
    · cases h1
    · go_enter Tryz.func73, Tryz.ntmps73
      go_wp2
      go_ret2
      exact ⟨rfl, rfl⟩
  · cases d
    · rcases h with ⟨_, h1, _⟩ | ⟨_, rfl, rfl⟩
      · exact absurd h1 D.no
      · go_enter Tryz.func73, Tryz.ntmps73
        go_wp2_with fail
        refine (sAmt x false _ D).mono ?_
        rintro e w1 ⟨rfl, rfl⟩
        go_wp2
        go_ret2
        exact ⟨rfl, rfl⟩
    · rcases h with ⟨_, h1, rfl, rfl⟩ | ⟨h1, _⟩
      · clear h1
        go_enter Tryz.func73, Tryz.ntmps73
        go_wp2_with fail
        refine (sAmt r true _ D).mono ?_
        rintro e w1 ⟨rfl, rfl⟩
        go_wp2
        go_ret2
        exact ⟨rfl, rfl⟩
      · exact absurd ⟨rfl, D.yes⟩ h1
theorem iOnly (x : Int) (c : Bool) (r : Int) (w : World) (h : (Amt x ∧ r = x ∧ c = true) ∨ (¬ Amt x ∧ r = 0 ∧ c = false)) :
    Calls Tryz.prog 116 #[.int .i64 x] w fun e w' => e = .returned (.tuple #[.int .i64 r, .bool c]) ∧ w' = w := by
  obtain ⟨d, D⟩ := says_of (Amt x)
  cases d
  · rcases h with ⟨h1, _⟩ | ⟨_, rfl, rfl⟩
    · exact absurd h1 D.no
    · go_enter Tryz.func116, Tryz.ntmps116
      go_wp2_with fail
      refine (iAmt x false _ D).mono ?_
      rintro e w1 ⟨rfl, rfl⟩
      go_wp2
      go_ret2
      exact ⟨rfl, rfl⟩
  · rcases h with ⟨h1, rfl, rfl⟩ | ⟨h1, _⟩
    · clear h1
      go_enter Tryz.func116, Tryz.ntmps116
      go_wp2_with fail
      refine (iAmt r true _ D).mono ?_
      rintro e w1 ⟨rfl, rfl⟩
      go_wp2
      go_ret2
      exact ⟨rfl, rfl⟩
    · exact absurd D.yes h1
/-- The sums so far stay far within 64 bits. -/
theorem sum_near {ps : List T3} (i : Int) (hl : ps.length ≤ 160) (h : ∀ j, j < ps.length → Amt (el3 ps j).2.2) (k : Nat) (hk : k ≤ ps.length) : -200000000000000000 ≤ sumI (ps.take k) i ∧ sumI (ps.take k) i ≤ 200000000000000000 := by
  have := sumI_bound i h k hk
  omega
set_option maxRecDepth 100000 in
theorem sSum (w : World) (g n cap : Nat) (ps : List T3) (i r : Int) (c : Bool) (hl : ps.length = n) (h20 : n ≤ 1048576) (hg : g < w.heap.size) (h : At3 w g ps) (hs : IsSum ps i r c) :
    Calls Tryz.prog 68 #[.slice (some ⟨g, 0, none⟩) n cap, .int .i64 i] w fun e w' => e = .returned (.tuple #[.int .i64 r, .bool c]) ∧ Below w.heap.size w w' := by
  obtain ⟨ok, OK⟩ := says_of (Right ps)
  have H := hide h
  have HS := hide hs
  clear h hs
  go_enter Tryz.func68, Tryz.ntmps68
  go_wp2
  go_loopw [6, 7] (fun s j wr => ∃ (k : Nat), k ≤ n ∧ j = .int .i64 k ∧ s = .int .i64 (sumI (ps.take k) i) ∧ Below w.heap.size w wr ∧ (ok = false → k = 0)) (fun _ j _ => n - (intOf j).toNat)
  case atStart => exact ⟨0, by omega, rfl, rfl, Below.refl _ _, fun _ => rfl⟩
  case round =>
    obtain ⟨k, hk, rfl, rfl, hb, hf⟩ := hrel
    have A := hide ((unhide H).below hb hg)
    have HB := hide hb
    have sz := hb.size
    clear hb
    cases ok
    · obtain rfl : k = 0 := hf rfl
      by_cases t : 0 < n
      · go_wp2_with fail
        refine (sOk _ g n cap ps false hl h20 (by omega) (unhide A) OK).mono ?_
        rintro e w1 ⟨rfl, b1⟩
        have A1 := hide ((unhide A).below b1 (by omega))
        have B1 := hide (next (unhide HB) b1)
        have s1 := b1.size
        clear b1
        have z0 : sumI [] i = 0 := rfl
        rw [z0]
        go_wp2_with fail
        refine (sOk _ g n cap ps false hl h20 (by omega) (unhide A1) OK).mono ?_
        rintro e w2 ⟨rfl, b2⟩
        have B2 := hide (next (unhide B1) b2)
        clear b2
        go_wp2_with fail
        refine (sTold 0 false c r _ (by
          rcases unhide HS with ⟨h1, _⟩ | ⟨_, h2, h3⟩
          · exact absurd h1 OK.no
          · exact .inr ⟨fun q => (by have := q.1; cases this), h2, h3⟩)).mono ?_
        rintro e w3 ⟨rfl, rfl⟩
        go_wp2
        go_ret2
        exact ⟨rfl, unhide B2⟩
      · exact absurd (show Right ps from ⟨by omega, fun i hi => by omega⟩) OK.no
    · have RB := hide (fun k hk => sum_near (ps := ps) i OK.yes.1 (fun j hj => (OK.yes.2 j hj).2.2.1) k hk)
      by_cases t : k < n
      · go_wp2_with fail
        refine (sOk _ g n cap ps true hl h20 (by omega) (unhide A) OK).mono ?_
        rintro e w1 ⟨rfl, b1⟩
        obtain ⟨e1, e2, e3⟩ := ((unhide A).below b1 (by omega)) k (by omega)
        have B1 := hide (next (unhide HB) b1)
        clear b1
        have SN := hide (sumI_next (ps := ps) (k := k) (by omega) i)
        have R1 := hide ((unhide RB) (k + 1) (by omega))
        rw [unhide SN] at R1
        generalize (el3 ps k).1 = x at *
        generalize (el3 ps k).2.1 = y at *
        generalize (el3 ps k).2.2 = z at *
        generalize sumI (ps.take k) i = S at *
        by_cases c1 : y = i
        · rw [if_pos c1] at SN R1
          have R2 := unhide R1
          have wr1 : IntKind.i64.wrap (S + z) = S + z := by rw [IntKind.wrap_i64]; omega
          clear R2
          subst c1
          go_wp2
          go_roundw
          case rel => exact ⟨k + 1, by omega, by go_num, by rw [unhide SN], unhide B1, fun q => by cases q⟩
          case measure => simp [intOf]; omega
        · rw [if_neg c1] at SN R1
          have c1b : (y == i) = false := by simpa using c1
          have SN := hide ((unhide SN).trans (Int.add_zero S))
          go_wp2
          go_roundw
          case rel => exact ⟨k + 1, by omega, by go_num, by rw [unhide SN], unhide B1, fun q => by cases q⟩
          case measure => simp [intOf]; omega
      · obtain rfl : k = n := by omega
        have e0 : sumI (ps.take k) i = sumI ps i := by rw [List.take_of_length_le (by omega)]
        rw [e0]
        clear e0
        go_wp2_with fail
        refine (sOk _ g k cap ps true hl h20 (by omega) (unhide A) OK).mono ?_
        rintro e w2 ⟨rfl, b2⟩
        have B2 := hide (next (unhide HB) b2)
        clear b2
        go_wp2_with fail
        refine (sTold (sumI ps i) true c r _ (by
          rcases unhide HS with ⟨h1, h2, h3, h4⟩ | ⟨h1, h2, h3⟩
          · exact .inl ⟨rfl, h2, h3, h4⟩
          · exact .inr ⟨fun q => h1 ⟨OK.yes, q.2⟩, h2, h3⟩)).mono ?_
        rintro e w3 ⟨rfl, rfl⟩
        go_wp2
        go_ret2
        exact ⟨rfl, unhide B2⟩
set_option maxRecDepth 100000 in
theorem iSum (w : World) (g n cap : Nat) (ps : List T3) (i r : Int) (c : Bool) (hl : ps.length = n) (h20 : n ≤ 1048576) (hg : g < w.heap.size) (h : At3 w g ps) (hs : IsSum ps i r c) :
    Calls Tryz.prog 99 #[.slice (some ⟨g, 0, none⟩) n cap, .int .i64 i] w fun e w' => e = .returned (.tuple #[.int .i64 r, .bool c]) ∧ Below w.heap.size w w' := by
  obtain ⟨ok, OK⟩ := says_of (Right ps)
  have H := hide h
  have HS := hide hs
  clear h hs
  go_enter Tryz.func99, Tryz.ntmps99
  go_wp2_with fail
  refine (iOk _ g n cap ps ok hl h20 hg (unhide H) OK).mono ?_
  rintro e w1 ⟨rfl, b1⟩
  have B1 := hide b1
  clear b1
  cases ok
  · obtain ⟨rfl, rfl⟩ : r = 0 ∧ c = false := by
      rcases unhide HS with ⟨h1, _⟩ | ⟨_, h2, h3⟩
      · exact absurd h1 OK.no
      · exact ⟨h2, h3⟩
    go_wp2
    go_ret2
    exact ⟨rfl, unhide B1⟩
  have RB := hide (fun k hk => sum_near (ps := ps) i OK.yes.1 (fun j hj => (OK.yes.2 j hj).2.2.1) k hk)
  go_wp2
  go_loopw [6, 8, 14] (fun s _ j wr => ∃ (k : Nat), k ≤ n ∧ j = .int .i64 k ∧ s = .int .i64 (sumI (ps.take k) i) ∧ Below w.heap.size w wr) (fun _ _ j _ => n - (intOf j).toNat)
  case atStart => exact ⟨0, by omega, rfl, rfl, unhide B1⟩
  case round =>
    obtain ⟨k, hk, rfl, rfl, hb⟩ := hrel
    have A := hide ((unhide H).below hb hg)
    have HB := hide hb
    clear hb
    by_cases t : k < n
    · obtain ⟨e1, e2, e3⟩ := (unhide A) k (by omega)
      have SN := hide (sumI_next (ps := ps) (k := k) (by omega) i)
      have R1 := hide ((unhide RB) (k + 1) (by omega))
      rw [unhide SN] at R1
      generalize (el3 ps k).1 = x at *
      generalize (el3 ps k).2.1 = y at *
      generalize (el3 ps k).2.2 = z at *
      generalize sumI (ps.take k) i = S at *
      have NB := hide ((unhide HB).alloc (unhide HB).size (.cells #[.int .i64 x, .int .i64 y, .int .i64 z] 85))
      by_cases c1 : y = i
      · rw [if_pos c1] at SN R1
        have R2 := unhide R1
        have wr1 : IntKind.i64.wrap (S + z) = S + z := by rw [IntKind.wrap_i64]; omega
        clear R2
        subst c1
        go_wp2
        go_roundw
        case rel => exact ⟨k + 1, by omega, by go_num, by rw [unhide SN], unhide NB⟩
        case measure => simp [intOf]; omega
      · rw [if_neg c1] at SN R1
        have c1b : (y == i) = false := by simpa using c1
        have SN := hide ((unhide SN).trans (Int.add_zero S))
        go_wp2
        go_roundw
        case rel => exact ⟨k + 1, by omega, by go_num, by rw [unhide SN], unhide NB⟩
        case measure => simp [intOf]; omega
    · obtain rfl : k = n := by omega
      have e0 : sumI (ps.take k) i = sumI ps i := by rw [List.take_of_length_le (by omega)]
      rw [e0]
      clear e0
      go_wp2_with fail
      refine (iOnly (sumI ps i) c r _ (by
        rcases unhide HS with ⟨h1, h2, h3, h4⟩ | ⟨h1, h2, h3⟩
        · exact .inl ⟨h2, h3, h4⟩
        · exact .inr ⟨fun q => h1 ⟨OK.yes, q⟩, h2, h3⟩)).mono ?_
      rintro e w3 ⟨rfl, rfl⟩
      go_wp2
      go_ret2
      exact ⟨rfl, unhide HB⟩
theorem sum_is (ps : List T3) (i : Int) : ∃ r c, IsSum ps i r c := by
  by_cases h : Right ps ∧ Amt (sumI ps i)
  · exact ⟨_, _, .inl ⟨h.1, h.2, rfl, rfl⟩⟩
  · exact ⟨_, _, .inr ⟨h, rfl, rfl⟩⟩
end Go.Proofs.YtefcigaalgfmiaaGreat.Look
namespace Go.Proofs.YtefcigaalgfmiaaGreat.IBalsFit
open Go.ChangeShapes Go.WideShapes Go.ChangeAt Go.RowKit BMem Bks IRead IHave ITrade ILists
open Lots (Says says_of NoOk)
open Bals (T3 el3 val sumI)
open Triples (At3 Holds3)
theorem all_one {p : Int → Prop} {y : Int} {b : Bool} (h : Says b (p y)) : Says b (∀ z ∈ [y], p z) := by
  constructor
  · intro e z hz
    simp at hz
    subst hz
    exact h.1 e
  · intro e
    exact h.2 (e y (by simp))
/-- What a call leaves of books in a block, and of a struct of three numbers in another one. -/
structure St (w W : World) (x : Bx) : Prop where
  r : Rd W x
  c : Cl W w.heap.size x
  b : Below w.heap.size w W
  s : w.heap.size < W.heap.size
theorem St.step {w W W' : World} {x : Bx} (h : St w W x) (k : Below W.heap.size W W') : St w W' x :=
  ⟨h.r.below k, h.c.below k h.s, h.b.trans (k.mono (Nat.le_of_lt h.s)), Nat.lt_of_lt_of_le h.s k.size⟩
theorem St.start {w : World} {x : Bx} (h : Rd w x) (e : TypeId) : St w (w.alloc (.cells #[.slice (some ⟨x.ga, 0, none⟩) x.b.ac.length x.ca, .slice (some ⟨x.gi, 0, none⟩) x.b.ic.length x.ci, .slice (some ⟨x.gb, 0, none⟩) x.b.bs.length x.cb, .slice (some ⟨x.gl, 0, none⟩) x.b.ls.length x.cl, .slice (some ⟨x.gt, 0, none⟩) x.b.ts.length x.ct, .int .i64 x.b.lot] e)) x :=
  ⟨h.alloc _, boxed w x e, (Below.refl w.heap.size w).alloc (Nat.le_refl _) _, by simp⟩
theorem one_more (w : World) (o : Obj) : Below w.heap.size w (w.alloc o) := (Below.refl _ _).alloc (Nat.le_refl _) _
set_option maxRecDepth 100000 in
set_option maxHeartbeats 4000000 in
theorem iBalsFit (w : World) (x : Bx) (b : Bool) (h : Rd w x) (hl : Lists x.b) (hb : Says b (BalsFit x.b)) :
    Calls Tryz.prog 89 #[.agg #[.slice (some ⟨x.ga, 0, none⟩) x.b.ac.length x.ca, .slice (some ⟨x.gi, 0, none⟩) x.b.ic.length x.ci, .slice (some ⟨x.gb, 0, none⟩) x.b.bs.length x.cb, .slice (some ⟨x.gl, 0, none⟩) x.b.ls.length x.cl, .slice (some ⟨x.gt, 0, none⟩) x.b.ts.length x.ct, .int .i64 x.b.lot]] w fun e w' => e = .returned (.bool b) ∧ Below w.heap.size w w' := by
  have T := hide hb
  have L := hide hl
  have S0 := hide (St.start h 39)
  have nb := h.nb
  have ni := h.ni
  have G0 := hide h.lb
  have G1 := hide h.li
  have A0 := hide h.rb
  have A1 := hide h.ri
  clear hb hl h
  go_enter Tryz.func89, Tryz.ntmps89
  go_wp2
  go_loopw [12] (fun i wr => ∃ (k : Nat), k ≤ x.b.bs.length ∧ i = .int .i64 k ∧ St w wr x ∧ Hid (∀ j, j < k → BalFit x.b (el3 x.b.bs j))) (fun i _ => x.b.bs.length - (intOf i).toNat)
  case atStart => exact ⟨0, by omega, rfl, unhide S0, hide (fun i hi => absurd hi (by omega))⟩
  case round =>
    obtain ⟨k, hk, rfl, hS, HG⟩ := hrel
    clear S0
    by_cases t : k < x.b.bs.length
    · obtain ⟨d0, d1, d2⟩ := (hS.r.rb k t)
      obtain ⟨c0, c1, c2, c3, c4, c5⟩ := hS.c
      have BAD := hide (show ¬ BalFit x.b (el3 x.b.bs k) → b = false from fun hr => (unhide T).not (fun r => hr (r.1 k t)))
      have GOOD := hide (show BalFit x.b (el3 x.b.bs k) → ∀ i, i < k + 1 → BalFit x.b (el3 x.b.bs i) from fun hr i hi => by
        by_cases e : i = k
        · subst e; exact hr
        · exact (unhide HG) i (by omega))
      have FIT := hide (show BalFit x.b (el3 x.b.bs k) ↔ kindOf x.b.ac (el3 x.b.bs k).1 ≠ 0 ∧ kindOf x.b.ic (el3 x.b.bs k).2.1 ≠ 0 ∧ ¬ (kindOf x.b.ac (el3 x.b.bs k).1 = 1 ∧ (el3 x.b.bs k).2.2 < 0) from Iff.rfl)
      have wz := hS.s
      have S1 := hide (hS.step (one_more wr (.cells #[.int .i64 (el3 x.b.bs k).1, .int .i64 (el3 x.b.bs k).2.1, .int .i64 (el3 x.b.bs k).2.2] 85)))
      clear hS
      generalize (el3 x.b.bs k).1 = y0 at *
      generalize (el3 x.b.bs k).2.1 = y1 at *
      generalize (el3 x.b.bs k).2.2 = y2 at *
      obtain ⟨b0, h0⟩ := says_of (kindOf x.b.ac y0 ≠ 0)
      obtain ⟨b1, h1⟩ := says_of (kindOf x.b.ic y1 ≠ 0)
      obtain ⟨b2, h2⟩ := says_of (kindOf x.b.ac y0 = 1)
      have H0 := hide h0
      have H1 := hide h1
      have H2 := hide h2
      clear h0 h1 h2
      go_wp2_with fail
      have S2 := hide ((unhide S1).step (one_more _ (.cells #[.int .i64 y0] 3)))
      refine (iHaveAccounts _ x (wr.heap.size + 1) 1 1 [y0] b0 (unhide S2).r (unhide L).1 rfl (by omega) (by simp) (at_new _ [y0] _ (by simp) rfl) (all_one (unhide H0))).mono ?_
      rintro e w1 ⟨rfl, bb⟩
      have S3 := hide ((unhide S2).step bb)
      have f0 : w1.cell? ⟨wr.heap.size, 0, none⟩ = some (.int .i64 y0) := (bb.cell (p := ⟨wr.heap.size, 0, none⟩) (by simp; omega)).trans (by simp)
      have f1 : w1.cell? ⟨wr.heap.size, 1, none⟩ = some (.int .i64 y1) := (bb.cell (p := ⟨wr.heap.size, 1, none⟩) (by simp; omega)).trans (by simp)
      have f2 : w1.cell? ⟨wr.heap.size, 2, none⟩ = some (.int .i64 y2) := (bb.cell (p := ⟨wr.heap.size, 2, none⟩) (by simp; omega)).trans (by simp)
      have z1 : wr.heap.size < w1.heap.size := by have := bb.size; simp at this; omega
      clear bb c0 c1 c2 c3 c4 c5 d0 d1 d2
      obtain ⟨c0, c1, c2, c3, c4, c5⟩ := (unhide S3).c
      cases b0
      · have F := hide ((unhide BAD) (fun hh => (unhide H0).no ((unhide FIT).1 hh).1))
        clear BAD GOOD FIT T
        go_wp2
        go_ret
        exact ⟨by rw [unhide F]; rfl, (unhide S3).b⟩
      go_wp2_with fail
      have S4 := hide ((unhide S3).step (one_more _ (.cells #[.int .i64 y1] 3)))
      refine (iHaveInstrs _ x w1.heap.size 1 1 [y1] b1 (unhide S4).r (unhide L).2.1 rfl (by omega) (by simp) (at_new _ [y1] _ rfl rfl) (all_one (unhide H1))).mono ?_
      rintro e w2 ⟨rfl, bb⟩
      have S5 := hide ((unhide S4).step bb)
      have g0 : w2.cell? ⟨wr.heap.size, 0, none⟩ = some (.int .i64 y0) := (bb.cell (p := ⟨wr.heap.size, 0, none⟩) (by simp; omega)).trans ((World.cell?_alloc_past _ _ _ z1).trans f0)
      have g2 : w2.cell? ⟨wr.heap.size, 2, none⟩ = some (.int .i64 y2) := (bb.cell (p := ⟨wr.heap.size, 2, none⟩) (by simp; omega)).trans ((World.cell?_alloc_past _ _ _ z1).trans f2)
      clear bb c0 c1 c2 c3 c4 c5 f0 f1 f2
      obtain ⟨c0, c1, c2, c3, c4, c5⟩ := (unhide S5).c
      cases b1
      · have F := hide ((unhide BAD) (fun hh => (unhide H1).no ((unhide FIT).1 hh).2.1))
        clear BAD GOOD FIT T
        go_wp2
        go_ret
        exact ⟨by rw [unhide F]; rfl, (unhide S5).b⟩
      by_cases q : y2 < 0
      · go_wp2_with fail
        refine (iHolder _ x y0 b2 (unhide S5).r (unhide L).1 (unhide H2)).mono ?_
        rintro e w3 ⟨rfl, bb⟩
        have S6 := hide ((unhide S5).step bb)
        clear bb c0 c1 c2 c3 c4 c5
        cases b2
        · have G := hide ((unhide GOOD) ((unhide FIT).2 ⟨(unhide H0).yes, (unhide H1).yes, fun r => (unhide H2).no r.1⟩))
          clear BAD GOOD FIT
          go_wp2
          go_roundw
          case rel => exact ⟨k + 1, by omega, by go_num, unhide S6, G⟩
          case measure => simp [intOf]; omega
        · have F := hide ((unhide BAD) (fun hh => ((unhide FIT).1 hh).2.2 ⟨(unhide H2).yes, q⟩))
          clear BAD GOOD FIT T
          go_wp2
          go_ret
          exact ⟨by rw [unhide F]; rfl, (unhide S6).b⟩
      · have G := hide ((unhide GOOD) ((unhide FIT).2 ⟨(unhide H0).yes, (unhide H1).yes, fun r => q r.2⟩))
        have hq : decide (y2 < 0) = false := decide_eq_false q
        clear BAD GOOD FIT q
        go_wp2
        go_roundw
        case rel => exact ⟨k + 1, by omega, by go_num, unhide S5, G⟩
        case measure => simp [intOf]; omega
    · have ALL := hide (show ∀ k, k < x.b.bs.length → BalFit x.b (el3 x.b.bs k) from fun j hj => (unhide HG) j (by omega))
      obtain ⟨c0, c1, c2, c3, c4, c5⟩ := hS.c
      have S1 := hide hS
      clear hS HG
      go_wp2
      go_loopw [43] (fun i wr => ∃ (k : Nat), k ≤ x.b.ic.length ∧ i = .int .i64 k ∧ St w wr x ∧ Hid (∀ j, j < k → sumI x.b.bs (Chart.el x.b.ic j).1 = 0)) (fun i _ => x.b.ic.length - (intOf i).toNat)
      case atStart => exact ⟨0, by omega, rfl, unhide S1, hide (fun i hi => absurd hi (by omega))⟩
      case round =>
        clear c0 c1 c2 c3 c4 c5 S1 hk t
        obtain ⟨k, hk, rfl, hS, HG⟩ := hrel
        by_cases t : k < x.b.ic.length
        · obtain ⟨d0, d1⟩ := (hS.r.ri k t)
          have c2 := hS.c.c2
          have S1 := hide (hS.step (one_more _ (.cells #[.int .i64 (Chart.el x.b.ic k).1, .int .i64 (Chart.el x.b.ic k).2] 83)))
          have wz := hS.s
          clear hS
          have BAD := hide (show sumI x.b.bs (Chart.el x.b.ic k).1 ≠ 0 → b = false from fun hr => (unhide T).not (fun r => hr (r.2 _)))
          have GOOD := hide (show sumI x.b.bs (Chart.el x.b.ic k).1 = 0 → ∀ i, i < k + 1 → sumI x.b.bs (Chart.el x.b.ic i).1 = 0 from fun hr i hi => by
            by_cases e : i = k
            · subst e; exact hr
            · exact (unhide HG) i (by omega))
          generalize (Chart.el x.b.ic k).1 = y0 at *
          generalize (Chart.el x.b.ic k).2 = y1 at *
          obtain ⟨r, c, hs⟩ := Look.sum_is x.b.bs y0
          have Z := hide (sum_zero (unhide L).2.2.1 hs)
          have HS := hide hs
          clear hs
          go_wp2_with fail
          refine (Look.iSum _ x.gb _ x.cb x.b.bs y0 r c rfl nb (unhide S1).r.lb (unhide S1).r.rb (unhide HS)).mono ?_
          rintro e w1 ⟨rfl, bb⟩
          have S2 := hide ((unhide S1).step bb)
          clear bb c2 d0 d1
          cases c
          · have F := hide ((unhide BAD) (fun e => by have := (unhide Z).2 e; cases this.1))
            clear BAD GOOD T
            go_wp2
            go_ret
            exact ⟨by rw [unhide F]; rfl, (unhide S2).b⟩
          by_cases q : r = 0
          · have G := hide ((unhide GOOD) ((unhide Z).1 ⟨rfl, q⟩))
            have hq : (r != 0) = false := by simp [q]
            clear BAD GOOD q
            go_wp2
            go_roundw
            case rel => exact ⟨k + 1, by omega, by go_num, unhide S2, G⟩
            case measure => simp [intOf]; omega
          · have F := hide ((unhide BAD) (fun e => q ((unhide Z).2 e).2))
            have hq : (r != 0) = true := by simp [q]
            clear BAD GOOD T q
            go_wp2
            go_ret
            exact ⟨by rw [unhide F]; rfl, (unhide S2).b⟩
        · have F := hide ((unhide T).of (bals_impl (unhide ALL) (fun j hj => (unhide HG) j (by omega))))
          have S1 := hide hS
          clear hS
          go_wp2
          go_ret
          exact ⟨by rw [unhide F]; rfl, (unhide S1).b⟩
end Go.Proofs.YtefcigaalgfmiaaGreat.IBalsFit
namespace Go.Proofs.YtefcigaalgfmiaaGreat.AccountHelp
open Go.ChangeShapes Go.WideShapes Go.ChangeAt Go.RowKit Pairs
theorem info2 : (Tryz.prog.info? 82).map (fun i => (i.zero, i.size, i.bytes)) = some (some (.agg #[.int .i64 0, .int .i64 0]), 2, 16) := by kernel_rfl
set_option maxRecDepth 100000 in
theorem to1 (w : World) (x y : Int) : Calls Tryz.prog 51 #[.agg #[.int .i64 x, .int .i64 y]] w fun e w' => e = .returned (.agg #[.int .i64 x, .int .i64 y]) ∧ Below w.heap.size w w' := by
  go_enter Tryz.func51, Tryz.ntmps51
  go_wp2
  refine bodyPost_ret (v := .agg #[.int .i64 x, .int .i64 y]) (by simp [results, Tryz.results51, go_sem]) rfl ⟨rfl, ?_⟩
  exact (((Below.refl _ _).alloc (Nat.le_refl _) _).alloc (by simp) _).alloc (by simp; omega) _
theorem made_pairs (n : Nat) : (madeCells (Value.agg #[.int .i64 0, .int .i64 0]).cells (n * 2)).toList = flat (List.replicate n (0, 0)) := by
  apply List.ext_getElem?
  intro j
  by_cases hj : j < n * 2
  · have hs : (Value.agg #[Value.int .i64 0, Value.int .i64 0]).cells = #[Value.int .i64 0, Value.int .i64 0] := rfl
    rw [hs]
    obtain ⟨f0, f1⟩ := flat_get (List.replicate n (0, 0)) (j / 2) (by simp; omega)
    have hg : (List.replicate n ((0 : Int), (0 : Int))).getD (j / 2) (0, 0) = (0, 0) := by simp [List.getD, show j / 2 < n by omega]
    rw [hg] at f0 f1
    rcases (show j % 2 = 0 ∨ j % 2 = 1 by omega) with e | e
    · rw [show j / 2 * 2 = j by omega] at f0
      rw [f0]
      simp [madeCells, hj, e]
    · rw [show j / 2 * 2 + 1 = j by omega] at f1
      rw [f1]
      simp [madeCells, hj, e]
  · rw [List.getElem?_eq_none (by simp [madeCells]; omega), List.getElem?_eq_none (by rw [flat_len]; simp; omega)]
/-- The pairs so far, and zeros behind. -/
def part (ps : List (Int × Int)) (n k : Nat) : List (Int × Int) := ps.take k ++ List.replicate (n - k) (0, 0)
theorem part_zero (ps : List (Int × Int)) (n : Nat) : part ps n 0 = List.replicate n (0, 0) := by simp [part]
theorem part_all (ps : List (Int × Int)) (n : Nat) (h : ps.length = n) : part ps n n = ps := by
  unfold part
  rw [← h]; simp
theorem part_step (ps : List (Int × Int)) (n k : Nat) (h : ps.length = n) (hk : k < n) : ((part ps n k).modify k fun p => ((ps.getD k (0, 0)).1, p.2)).modify k (fun p => (p.1, (ps.getD k (0, 0)).2)) = part ps n (k + 1) := by
  subst h
  unfold part
  apply List.ext_getElem?
  intro j
  have l1 : (ps.take k).length = k := by simp; omega
  have l2 : (ps.take (k + 1)).length = k + 1 := by simp; omega
  rw [List.getElem?_modify, List.getElem?_modify]
  by_cases e : k = j
  · subst e
    rw [List.getElem?_append_right (by omega), List.getElem?_append_left (by omega), List.getElem?_take, if_pos (by omega), l1]
    simp [List.getD, hk, show 0 < ps.length - k by omega]
  · by_cases l : j < k
    · rw [List.getElem?_append_left (by omega), List.getElem?_append_left (by omega), List.getElem?_take, List.getElem?_take, if_pos l, if_pos (by omega)]
      simp [e]
    · rw [List.getElem?_append_right (by omega), List.getElem?_append_right (by omega), l1, l2]
      simp only [List.getElem?_replicate]
      by_cases m : j < ps.length
      · rw [if_pos (by omega), if_pos (by omega)]; simp [e]
      · rw [if_neg (by omega), if_neg (by omega)]; simp [e]
set_option maxRecDepth 100000 in
theorem toS (w : World) (a : Option Addr) (len cap : Nat) (ps : List (Int × Int)) (hl : ps.length = len) (h20 : len ≤ 1048576) (hr : Reads w a ps) :
    Calls Tryz.prog 24 #[.slice a len cap] w fun e w' => e = .returned (.slice (some ⟨w.heap.size, 0, none⟩) len len) ∧ Own 82 w' w.heap.size w.heap.size len len ps ∧ Below w.heap.size w w' := by
  obtain ⟨i0, hi, hz0, hz1, hz2⟩ := info_parts info2
  go_enter Tryz.func24, Tryz.ntmps24
  go_wp2_with (at_make; refine wpList_make_full _ rfl _ _ 33 rfl w.heap.size 82 i0 (.agg #[.int .i64 0, .int .i64 0]) 2 Tryz.underlying33 hi hz0 hz1 .i64 .i64 _ _ len rfl rfl rfl rfl (by rw [hz2]; omega) (by unfold maxLen; omega) (Nat.le_refl _) ?_; intro w1 hown hgrow)
  rw [made_pairs, ← part_zero ps] at hown
  have hb := grownBy_below hgrow
  have hown : Own 82 w1 w.heap.size w.heap.size len len (part ps len 0) := hown
  clear hgrow
  go_loopw [4] (fun i wr => ∃ (k : Nat), k ≤ len ∧ i = .int .i64 k ∧ Own 82 wr w.heap.size w.heap.size len len (part ps len k) ∧ Below w.heap.size w wr) (fun i _ => len - (intOf i).toNat)
  case atStart => exact ⟨0, by omega, rfl, hown, hb⟩
  case round =>
    clear hown hb
    obtain ⟨k, hk, rfl, hown, hb⟩ := hrel
    by_cases t : k < len
    · rcases hr with hz | ⟨b, off, rfl, hlt, hcell⟩
      · omega
      have hc0 := (hb.cell (p := ⟨b, off + k * 2, none⟩) hlt).trans (hcell k (by omega)).1
      have hc1 := (hb.cell (p := ⟨b, off + k * 2 + 1, none⟩) hlt).trans (hcell k (by omega)).2
      clear hcell
      have HO := hide hown
      have HB := hide hb
      clear hown hb
      generalize hx : (ps.getD k (0, 0)).1 = x at *
      generalize hy : (ps.getD k (0, 0)).2 = y at *
      have HX := hide hx
      have HY := hide hy
      clear hx hy
      go_wp2_with fail
      refine (to1 _ x y).mono ?_
      rintro e w2 ⟨rfl, b2⟩
      have o2 := (unhide HO).below b2 (unhide HO).lt.2
      have hb2 := (unhide HB).trans (b2.mono (unhide HB).size)
      clear HO HB b2 hc0 hc1
      have hs := o2.set0 k x
      have hs2 := hs.1.set1 k y
      have hd := o2.at k (by rw [o2.len]; exact t)
      have hd0 := hd.1
      have hd1 := hd.2
      have hf0 := o2.free (k * 2)
      have hf1 := o2.free (k * 2 + 1)
      have HS := hide hs2.1
      have HB := hide ((hb2.setCell (p := ⟨w.heap.size, k * 2, none⟩) (Nat.le_refl _) (.int .i64 x)).setCell (p := ⟨w.heap.size, k * 2 + 1, none⟩) (Nat.le_refl _) (.int .i64 y))
      clear hs hs2 hd o2 hb2
      go_wp2
      go_roundw
      case rel =>
        have o := unhide HS
        rw [← unhide HX, ← unhide HY] at o
        rw [part_step ps len k hl t] at o
        refine ⟨k + 1, by omega, by go_num, ?_, unhide HB⟩
        rw [← unhide HX, ← unhide HY]
        exact o
      case measure => simp [intOf]; omega
    · obtain rfl : k = len := by omega
      rw [part_all ps k hl] at hown
      have HO := hide hown
      have HB := hide hb
      clear hown hb hr
      go_wp2
      go_ret
      exact ⟨rfl, unhide HO, unhide HB⟩
set_option maxRecDepth 100000 in
theorem eq1 (w : World) (x y : Int) : Calls Tryz.prog 57 #[.agg #[.int .i64 x, .int .i64 y], .agg #[.int .i64 x, .int .i64 y]] w fun e w' => e = .returned (.bool true) ∧ w' = (w.alloc (.cells #[.int .i64 x, .int .i64 y] 82)).alloc (.cells #[.int .i64 x, .int .i64 y] 82) := by
  go_enter Tryz.func57, Tryz.ntmps57
  go_wp2
  go_ret
  exact ⟨rfl, rfl⟩
theorem two_more (w : World) (o p : Obj) : Below w.heap.size w ((w.alloc o).alloc p).drew := (((Below.refl _ _).alloc (Nat.le_refl _) _).alloc (by simp) _).drew
set_option maxRecDepth 100000 in
theorem eqS (w : World) (g1 g2 n c1 c2 : Nat) (ps : List (Int × Int)) (hl : ps.length = n) (h20 : n ≤ 1048576) (l1 : g1 < w.heap.size) (l2 : g2 < w.heap.size) (h1 : At w g1 ps) (h2 : At w g2 ps) :
    Calls Tryz.prog 30 #[.slice (some ⟨g1, 0, none⟩) n c1, .slice (some ⟨g2, 0, none⟩) n c2] w fun e w' => e = .returned (.bool true) ∧ Below w.heap.size w w' := by
  go_enter Tryz.func30, Tryz.ntmps30
  go_wp2
  go_loopw [5] (fun i wr => ∃ (k : Nat), k ≤ n ∧ i = .int .i64 k ∧ At wr g1 ps ∧ At wr g2 ps ∧ Below w.heap.size w wr) (fun i _ => n - (intOf i).toNat)
  case atStart => exact ⟨0, by omega, rfl, h1, h2, Below.refl _ _⟩
  case round =>
    clear h1 h2
    obtain ⟨k, hk, rfl, h1, h2, hb⟩ := hrel
    by_cases t : k < n
    · obtain ⟨e1, f1⟩ := h1 k (by omega)
      obtain ⟨e2, f2⟩ := h2 k (by omega)
      have s := hb.size
      have H1 := hide h1
      have H2 := hide h2
      have HB := hide hb
      clear h1 h2 hb
      generalize (ps.getD k (0, 0)).1 = x at *
      generalize (ps.getD k (0, 0)).2 = y at *
      go_wp2_with fail
      go_region_held3 (fun w' => w'.cell? ⟨g1, k * 2, none⟩ = some (.int .i64 x) ∧ w'.cell? ⟨g2, k * 2, none⟩ = some (.int .i64 x) ∧ w'.cell? ⟨g1, k * 2 + 1, none⟩ = some (.int .i64 y) ∧ w'.cell? ⟨g2, k * 2 + 1, none⟩ = some (.int .i64 y)) (go_keep)
        (first | (go_at_call 57; refine (eq1 _ _ _).mono ?_; rintro e w2 ⟨rfl, rfl⟩))
      all_goals (go_wp2; go_roundw)
      all_goals first
        | (have b2 := two_more wr (.cells #[.int .i64 x, .int .i64 y] 82) (.cells #[.int .i64 x, .int .i64 y] 82)
           exact ⟨k + 1, by omega, by go_num, (unhide H1).below b2 (by omega), (unhide H2).below b2 (by omega), next (unhide HB) b2⟩)
        | (simp [intOf]; omega)
    · have HB := hide hb
      clear h1 h2 hb
      go_wp2
      go_ret
      exact ⟨rfl, unhide HB⟩
end Go.Proofs.YtefcigaalgfmiaaGreat.AccountHelp
namespace Go.Proofs.YtefcigaalgfmiaaGreat.AccountMark
open Go.ChangeShapes Go.WideShapes Go.ChangeAt Go.RowKit Pairs
/-- The marks. -/
def marks (s : Int) (n : Nat) : List (Int × Int) := (List.range n).map fun (i : Nat) => (s + 2 * (i : Int), s + 2 * (i : Int) + 1)
theorem marks_len (s : Int) (n : Nat) : (marks s n).length = n := by simp [marks]
theorem marks_getD (s : Int) (n i : Nat) (h : i < n) : (marks s n).getD i (0, 0) = (s + 2 * (i : Int), s + 2 * (i : Int) + 1) := by simp [marks, List.getD, h]
/-- The marks so far, and what stood behind. -/
def marked (s : Int) (ps : List (Int × Int)) (n j : Nat) : List (Int × Int) := (marks s n).take j ++ ps.drop j
theorem marked_zero (s : Int) (ps : List (Int × Int)) (n : Nat) : marked s ps n 0 = ps := by simp [marked]
theorem marked_all (s : Int) (ps : List (Int × Int)) (n : Nat) (h : ps.length = n) : marked s ps n n = marks s n := by
  unfold marked
  rw [List.take_of_length_le (by rw [marks_len]; exact Nat.le_refl _), List.drop_of_length_le (by omega), List.append_nil]
theorem marked_step (s : Int) (ps : List (Int × Int)) (n j : Nat) (h : ps.length = n) (hj : j < n) : ((marked s ps n j).modify j fun p => (s + 2 * (j : Int), p.2)).modify j (fun p => (p.1, s + 2 * (j : Int) + 1)) = marked s ps n (j + 1) := by
  unfold marked
  have l := marks_len s n
  have g := marks_getD s n j hj
  have l1 : ((marks s n).take j).length = j := by simp; omega
  have l2 : ((marks s n).take (j + 1)).length = j + 1 := by simp; omega
  apply List.ext_getElem?
  intro i
  rw [List.getElem?_modify, List.getElem?_modify]
  by_cases e : j = i
  · subst e
    rw [List.getElem?_append_right (by omega), List.getElem?_append_left (by omega), List.getElem?_take, if_pos (by omega), l1]
    have hg : (marks s n)[j]? = some (s + 2 * (j : Int), s + 2 * (j : Int) + 1) := by
      rw [← g]; simp [List.getD, l, hj]
    rw [hg]
    simp [List.getElem?_drop, h, hj]
  · by_cases q : i < j
    · rw [List.getElem?_append_left (by omega), List.getElem?_append_left (by omega), List.getElem?_take, List.getElem?_take, if_pos q, if_pos (by omega)]
      simp [e]
    · rw [List.getElem?_append_right (by omega), List.getElem?_append_right (by omega), l1, l2]
      simp only [List.getElem?_drop]
      rw [show j + (i - j) = i by omega, show j + 1 + (i - (j + 1)) = i by omega]
      simp [e]
set_option maxRecDepth 100000 in
theorem markS (w : World) (base g n cap : Nat) (s : Int) (ps : List (Int × Int)) (h20 : n ≤ 1048576) (s0 : 0 ≤ s) (s1 : s ≤ 100000000) (ho : Own 82 w base g n cap ps) :
    Calls Tryz.prog 35 #[.slice (some ⟨g, 0, none⟩) n cap, .int .i64 s] w fun e w' => e = .returned (.int .i64 (s + 2 * (n : Int))) ∧ Own 82 w' base g n cap (marks s n) ∧ w.grownBy w' (some g) := by
  have hl := ho.len
  have ho' : Own 82 w base g n cap (marked s ps n 0) := by rw [marked_zero]; exact ho
  clear ho
  go_enter Tryz.func35, Tryz.ntmps35
  go_wp2
  go_loopw [1, 5] (fun m i wr => ∃ (k : Nat), k ≤ n ∧ i = .int .i64 k ∧ m = .int .i64 (s + 2 * (k : Int)) ∧ Own 82 wr base g n cap (marked s ps n k) ∧ w.grownBy wr (some g)) (fun _ i _ => n - (intOf i).toNat)
  case atStart => exact ⟨0, by omega, rfl, by go_num, ho', World.grownBy.refl _ _⟩
  case round =>
    clear ho'
    obtain ⟨k, hk, rfl, rfl, hown, hg⟩ := hrel
    by_cases t : k < n
    · obtain ⟨o1, q1⟩ := hown.set0 k (s + 2 * (k : Int))
      obtain ⟨o2, q2⟩ := o1.set1 k (s + 2 * (k : Int) + 1)
      obtain ⟨hd0, hd1⟩ := hown.at k (by rw [Own.len hown]; exact t)
      have hf0 := hown.free (k * 2)
      have hf1 := hown.free (k * 2 + 1)
      rw [marked_step s ps n k hl t] at o2
      have HO := hide o2
      have HG := hide (grown_trans (grown_trans hg q1) q2)
      clear hown hg o1 q1 o2 q2
      generalize ((marked s ps n k).getD k (0, 0)).1 = z0 at hd0
      generalize ((marked s ps n k).getD k (0, 0)).2 = z1 at hd1
      go_wp2
      go_roundw
      case rel => exact ⟨k + 1, by omega, by go_num, by go_num, unhide HO, unhide HG⟩
      case measure => simp [intOf]; omega
    · obtain rfl : k = n := by omega
      rw [marked_all s ps k hl] at hown
      have HO := hide hown
      have HG := hide hg
      clear hown hg
      go_wp2
      go_ret
      exact ⟨rfl, unhide HO, unhide HG⟩
theorem sz_yes (a : Option Addr) (len cap : Nat) (l : Int) (w : World) (h : (len : Int) ≤ l) (hl : l ≤ 1048576) :
    Calls Tryz.prog 16 #[.slice a len cap, .int .i64 l] w fun e w' => e = .returned (.int .i64 (l - (len : Int))) ∧ w' = w := by
  have h1 : (0 : Int) ≤ l - (len : Int) := by omega
  have h2 : wrap64 (l - (len : Int)) = l - (len : Int) := by rw [wrap64]; omega
  go_enter Tryz.func16, Tryz.ntmps16
  go_wp2
  go_ret
  exact ⟨rfl, rfl⟩
theorem sz_no (a : Option Addr) (len cap : Nat) (l : Int) (w : World) (h : ¬ (len : Int) ≤ l) (hl : l ≤ 1048576) (h0 : 0 ≤ l) (hm : len ≤ 9223372036854775807) :
    Calls Tryz.prog 16 #[.slice a len cap, .int .i64 l] w fun e w' => e = .returned (.int .i64 (-1)) ∧ w' = w := by
  have h1 : l - (len : Int) < 0 := by omega
  have h2 : wrap64 (l - (len : Int)) = l - (len : Int) := by rw [wrap64]; omega
  go_enter Tryz.func16, Tryz.ntmps16
  go_wp2
  go_ret
  exact ⟨rfl, rfl⟩
end Go.Proofs.YtefcigaalgfmiaaGreat.AccountMark
namespace Go.Proofs.YtefcigaalgfmiaaGreat.InstrHelp
open Go.ChangeShapes Go.WideShapes Go.ChangeAt Go.RowKit Pairs
theorem info2 : (Tryz.prog.info? 83).map (fun i => (i.zero, i.size, i.bytes)) = some (some (.agg #[.int .i64 0, .int .i64 0]), 2, 16) := by kernel_rfl
set_option maxRecDepth 100000 in
theorem to1 (w : World) (x y : Int) : Calls Tryz.prog 52 #[.agg #[.int .i64 x, .int .i64 y]] w fun e w' => e = .returned (.agg #[.int .i64 x, .int .i64 y]) ∧ Below w.heap.size w w' := by
  go_enter Tryz.func52, Tryz.ntmps52
  go_wp2
  refine bodyPost_ret (v := .agg #[.int .i64 x, .int .i64 y]) (by simp [results, Tryz.results52, go_sem]) rfl ⟨rfl, ?_⟩
  exact (((Below.refl _ _).alloc (Nat.le_refl _) _).alloc (by simp) _).alloc (by simp; omega) _
theorem made_pairs (n : Nat) : (madeCells (Value.agg #[.int .i64 0, .int .i64 0]).cells (n * 2)).toList = flat (List.replicate n (0, 0)) := by
  apply List.ext_getElem?
  intro j
  by_cases hj : j < n * 2
  · have hs : (Value.agg #[Value.int .i64 0, Value.int .i64 0]).cells = #[Value.int .i64 0, Value.int .i64 0] := rfl
    rw [hs]
    obtain ⟨f0, f1⟩ := flat_get (List.replicate n (0, 0)) (j / 2) (by simp; omega)
    have hg : (List.replicate n ((0 : Int), (0 : Int))).getD (j / 2) (0, 0) = (0, 0) := by simp [List.getD, show j / 2 < n by omega]
    rw [hg] at f0 f1
    rcases (show j % 2 = 0 ∨ j % 2 = 1 by omega) with e | e
    · rw [show j / 2 * 2 = j by omega] at f0
      rw [f0]
      simp [madeCells, hj, e]
    · rw [show j / 2 * 2 + 1 = j by omega] at f1
      rw [f1]
      simp [madeCells, hj, e]
  · rw [List.getElem?_eq_none (by simp [madeCells]; omega), List.getElem?_eq_none (by rw [flat_len]; simp; omega)]
/-- The pairs so far, and zeros behind. -/
def part (ps : List (Int × Int)) (n k : Nat) : List (Int × Int) := ps.take k ++ List.replicate (n - k) (0, 0)
theorem part_zero (ps : List (Int × Int)) (n : Nat) : part ps n 0 = List.replicate n (0, 0) := by simp [part]
theorem part_all (ps : List (Int × Int)) (n : Nat) (h : ps.length = n) : part ps n n = ps := by
  unfold part
  rw [← h]; simp
theorem part_step (ps : List (Int × Int)) (n k : Nat) (h : ps.length = n) (hk : k < n) : ((part ps n k).modify k fun p => ((ps.getD k (0, 0)).1, p.2)).modify k (fun p => (p.1, (ps.getD k (0, 0)).2)) = part ps n (k + 1) := by
  subst h
  unfold part
  apply List.ext_getElem?
  intro j
  have l1 : (ps.take k).length = k := by simp; omega
  have l2 : (ps.take (k + 1)).length = k + 1 := by simp; omega
  rw [List.getElem?_modify, List.getElem?_modify]
  by_cases e : k = j
  · subst e
    rw [List.getElem?_append_right (by omega), List.getElem?_append_left (by omega), List.getElem?_take, if_pos (by omega), l1]
    simp [List.getD, hk, show 0 < ps.length - k by omega]
  · by_cases l : j < k
    · rw [List.getElem?_append_left (by omega), List.getElem?_append_left (by omega), List.getElem?_take, List.getElem?_take, if_pos l, if_pos (by omega)]
      simp [e]
    · rw [List.getElem?_append_right (by omega), List.getElem?_append_right (by omega), l1, l2]
      simp only [List.getElem?_replicate]
      by_cases m : j < ps.length
      · rw [if_pos (by omega), if_pos (by omega)]; simp [e]
      · rw [if_neg (by omega), if_neg (by omega)]; simp [e]
set_option maxRecDepth 100000 in
theorem toS (w : World) (a : Option Addr) (len cap : Nat) (ps : List (Int × Int)) (hl : ps.length = len) (h20 : len ≤ 1048576) (hr : Reads w a ps) :
    Calls Tryz.prog 25 #[.slice a len cap] w fun e w' => e = .returned (.slice (some ⟨w.heap.size, 0, none⟩) len len) ∧ Own 83 w' w.heap.size w.heap.size len len ps ∧ Below w.heap.size w w' := by
  obtain ⟨i0, hi, hz0, hz1, hz2⟩ := info_parts info2
  go_enter Tryz.func25, Tryz.ntmps25
  go_wp2_with (at_make; refine wpList_make_full _ rfl _ _ 34 rfl w.heap.size 83 i0 (.agg #[.int .i64 0, .int .i64 0]) 2 Tryz.underlying34 hi hz0 hz1 .i64 .i64 _ _ len rfl rfl rfl rfl (by rw [hz2]; omega) (by unfold maxLen; omega) (Nat.le_refl _) ?_; intro w1 hown hgrow)
  rw [made_pairs, ← part_zero ps] at hown
  have hb := grownBy_below hgrow
  have hown : Own 83 w1 w.heap.size w.heap.size len len (part ps len 0) := hown
  clear hgrow
  go_loopw [4] (fun i wr => ∃ (k : Nat), k ≤ len ∧ i = .int .i64 k ∧ Own 83 wr w.heap.size w.heap.size len len (part ps len k) ∧ Below w.heap.size w wr) (fun i _ => len - (intOf i).toNat)
  case atStart => exact ⟨0, by omega, rfl, hown, hb⟩
  case round =>
    clear hown hb
    obtain ⟨k, hk, rfl, hown, hb⟩ := hrel
    by_cases t : k < len
    · rcases hr with hz | ⟨b, off, rfl, hlt, hcell⟩
      · omega
      have hc0 := (hb.cell (p := ⟨b, off + k * 2, none⟩) hlt).trans (hcell k (by omega)).1
      have hc1 := (hb.cell (p := ⟨b, off + k * 2 + 1, none⟩) hlt).trans (hcell k (by omega)).2
      clear hcell
      have HO := hide hown
      have HB := hide hb
      clear hown hb
      generalize hx : (ps.getD k (0, 0)).1 = x at *
      generalize hy : (ps.getD k (0, 0)).2 = y at *
      have HX := hide hx
      have HY := hide hy
      clear hx hy
      go_wp2_with fail
      refine (to1 _ x y).mono ?_
      rintro e w2 ⟨rfl, b2⟩
      have o2 := (unhide HO).below b2 (unhide HO).lt.2
      have hb2 := (unhide HB).trans (b2.mono (unhide HB).size)
      clear HO HB b2 hc0 hc1
      have hs := o2.set0 k x
      have hs2 := hs.1.set1 k y
      have hd := o2.at k (by rw [o2.len]; exact t)
      have hd0 := hd.1
      have hd1 := hd.2
      have hf0 := o2.free (k * 2)
      have hf1 := o2.free (k * 2 + 1)
      have HS := hide hs2.1
      have HB := hide ((hb2.setCell (p := ⟨w.heap.size, k * 2, none⟩) (Nat.le_refl _) (.int .i64 x)).setCell (p := ⟨w.heap.size, k * 2 + 1, none⟩) (Nat.le_refl _) (.int .i64 y))
      clear hs hs2 hd o2 hb2
      go_wp2
      go_roundw
      case rel =>
        have o := unhide HS
        rw [← unhide HX, ← unhide HY] at o
        rw [part_step ps len k hl t] at o
        refine ⟨k + 1, by omega, by go_num, ?_, unhide HB⟩
        rw [← unhide HX, ← unhide HY]
        exact o
      case measure => simp [intOf]; omega
    · obtain rfl : k = len := by omega
      rw [part_all ps k hl] at hown
      have HO := hide hown
      have HB := hide hb
      clear hown hb hr
      go_wp2
      go_ret
      exact ⟨rfl, unhide HO, unhide HB⟩
set_option maxRecDepth 100000 in
theorem eq1 (w : World) (x y : Int) : Calls Tryz.prog 58 #[.agg #[.int .i64 x, .int .i64 y], .agg #[.int .i64 x, .int .i64 y]] w fun e w' => e = .returned (.bool true) ∧ w' = (w.alloc (.cells #[.int .i64 x, .int .i64 y] 83)).alloc (.cells #[.int .i64 x, .int .i64 y] 83) := by
  go_enter Tryz.func58, Tryz.ntmps58
  go_wp2
  go_ret
  exact ⟨rfl, rfl⟩
theorem two_more (w : World) (o p : Obj) : Below w.heap.size w ((w.alloc o).alloc p).drew := (((Below.refl _ _).alloc (Nat.le_refl _) _).alloc (by simp) _).drew
set_option maxRecDepth 100000 in
theorem eqS (w : World) (g1 g2 n c1 c2 : Nat) (ps : List (Int × Int)) (hl : ps.length = n) (h20 : n ≤ 1048576) (l1 : g1 < w.heap.size) (l2 : g2 < w.heap.size) (h1 : At w g1 ps) (h2 : At w g2 ps) :
    Calls Tryz.prog 31 #[.slice (some ⟨g1, 0, none⟩) n c1, .slice (some ⟨g2, 0, none⟩) n c2] w fun e w' => e = .returned (.bool true) ∧ Below w.heap.size w w' := by
  go_enter Tryz.func31, Tryz.ntmps31
  go_wp2
  go_loopw [5] (fun i wr => ∃ (k : Nat), k ≤ n ∧ i = .int .i64 k ∧ At wr g1 ps ∧ At wr g2 ps ∧ Below w.heap.size w wr) (fun i _ => n - (intOf i).toNat)
  case atStart => exact ⟨0, by omega, rfl, h1, h2, Below.refl _ _⟩
  case round =>
    clear h1 h2
    obtain ⟨k, hk, rfl, h1, h2, hb⟩ := hrel
    by_cases t : k < n
    · obtain ⟨e1, f1⟩ := h1 k (by omega)
      obtain ⟨e2, f2⟩ := h2 k (by omega)
      have s := hb.size
      have H1 := hide h1
      have H2 := hide h2
      have HB := hide hb
      clear h1 h2 hb
      generalize (ps.getD k (0, 0)).1 = x at *
      generalize (ps.getD k (0, 0)).2 = y at *
      go_wp2_with fail
      go_region_held3 (fun w' => w'.cell? ⟨g1, k * 2, none⟩ = some (.int .i64 x) ∧ w'.cell? ⟨g2, k * 2, none⟩ = some (.int .i64 x) ∧ w'.cell? ⟨g1, k * 2 + 1, none⟩ = some (.int .i64 y) ∧ w'.cell? ⟨g2, k * 2 + 1, none⟩ = some (.int .i64 y)) (go_keep)
        (first | (go_at_call 58; refine (eq1 _ _ _).mono ?_; rintro e w2 ⟨rfl, rfl⟩))
      all_goals (go_wp2; go_roundw)
      all_goals first
        | (have b2 := two_more wr (.cells #[.int .i64 x, .int .i64 y] 83) (.cells #[.int .i64 x, .int .i64 y] 83)
           exact ⟨k + 1, by omega, by go_num, (unhide H1).below b2 (by omega), (unhide H2).below b2 (by omega), next (unhide HB) b2⟩)
        | (simp [intOf]; omega)
    · have HB := hide hb
      clear h1 h2 hb
      go_wp2
      go_ret
      exact ⟨rfl, unhide HB⟩
end Go.Proofs.YtefcigaalgfmiaaGreat.InstrHelp
namespace Go.Proofs.YtefcigaalgfmiaaGreat.InstrMark
open Go.ChangeShapes Go.WideShapes Go.ChangeAt Go.RowKit Pairs
/-- The marks. -/
def marks (s : Int) (n : Nat) : List (Int × Int) := (List.range n).map fun (i : Nat) => (s + 2 * (i : Int), s + 2 * (i : Int) + 1)
theorem marks_len (s : Int) (n : Nat) : (marks s n).length = n := by simp [marks]
theorem marks_getD (s : Int) (n i : Nat) (h : i < n) : (marks s n).getD i (0, 0) = (s + 2 * (i : Int), s + 2 * (i : Int) + 1) := by simp [marks, List.getD, h]
/-- The marks so far, and what stood behind. -/
def marked (s : Int) (ps : List (Int × Int)) (n j : Nat) : List (Int × Int) := (marks s n).take j ++ ps.drop j
theorem marked_zero (s : Int) (ps : List (Int × Int)) (n : Nat) : marked s ps n 0 = ps := by simp [marked]
theorem marked_all (s : Int) (ps : List (Int × Int)) (n : Nat) (h : ps.length = n) : marked s ps n n = marks s n := by
  unfold marked
  rw [List.take_of_length_le (by rw [marks_len]; exact Nat.le_refl _), List.drop_of_length_le (by omega), List.append_nil]
theorem marked_step (s : Int) (ps : List (Int × Int)) (n j : Nat) (h : ps.length = n) (hj : j < n) : ((marked s ps n j).modify j fun p => (s + 2 * (j : Int), p.2)).modify j (fun p => (p.1, s + 2 * (j : Int) + 1)) = marked s ps n (j + 1) := by
  unfold marked
  have l := marks_len s n
  have g := marks_getD s n j hj
  have l1 : ((marks s n).take j).length = j := by simp; omega
  have l2 : ((marks s n).take (j + 1)).length = j + 1 := by simp; omega
  apply List.ext_getElem?
  intro i
  rw [List.getElem?_modify, List.getElem?_modify]
  by_cases e : j = i
  · subst e
    rw [List.getElem?_append_right (by omega), List.getElem?_append_left (by omega), List.getElem?_take, if_pos (by omega), l1]
    have hg : (marks s n)[j]? = some (s + 2 * (j : Int), s + 2 * (j : Int) + 1) := by
      rw [← g]; simp [List.getD, l, hj]
    rw [hg]
    simp [List.getElem?_drop, h, hj]
  · by_cases q : i < j
    · rw [List.getElem?_append_left (by omega), List.getElem?_append_left (by omega), List.getElem?_take, List.getElem?_take, if_pos q, if_pos (by omega)]
      simp [e]
    · rw [List.getElem?_append_right (by omega), List.getElem?_append_right (by omega), l1, l2]
      simp only [List.getElem?_drop]
      rw [show j + (i - j) = i by omega, show j + 1 + (i - (j + 1)) = i by omega]
      simp [e]
set_option maxRecDepth 100000 in
theorem markS (w : World) (base g n cap : Nat) (s : Int) (ps : List (Int × Int)) (h20 : n ≤ 1048576) (s0 : 0 ≤ s) (s1 : s ≤ 100000000) (ho : Own 83 w base g n cap ps) :
    Calls Tryz.prog 36 #[.slice (some ⟨g, 0, none⟩) n cap, .int .i64 s] w fun e w' => e = .returned (.int .i64 (s + 2 * (n : Int))) ∧ Own 83 w' base g n cap (marks s n) ∧ w.grownBy w' (some g) := by
  have hl := ho.len
  have ho' : Own 83 w base g n cap (marked s ps n 0) := by rw [marked_zero]; exact ho
  clear ho
  go_enter Tryz.func36, Tryz.ntmps36
  go_wp2
  go_loopw [1, 5] (fun m i wr => ∃ (k : Nat), k ≤ n ∧ i = .int .i64 k ∧ m = .int .i64 (s + 2 * (k : Int)) ∧ Own 83 wr base g n cap (marked s ps n k) ∧ w.grownBy wr (some g)) (fun _ i _ => n - (intOf i).toNat)
  case atStart => exact ⟨0, by omega, rfl, by go_num, ho', World.grownBy.refl _ _⟩
  case round =>
    clear ho'
    obtain ⟨k, hk, rfl, rfl, hown, hg⟩ := hrel
    by_cases t : k < n
    · obtain ⟨o1, q1⟩ := hown.set0 k (s + 2 * (k : Int))
      obtain ⟨o2, q2⟩ := o1.set1 k (s + 2 * (k : Int) + 1)
      obtain ⟨hd0, hd1⟩ := hown.at k (by rw [Own.len hown]; exact t)
      have hf0 := hown.free (k * 2)
      have hf1 := hown.free (k * 2 + 1)
      rw [marked_step s ps n k hl t] at o2
      have HO := hide o2
      have HG := hide (grown_trans (grown_trans hg q1) q2)
      clear hown hg o1 q1 o2 q2
      generalize ((marked s ps n k).getD k (0, 0)).1 = z0 at hd0
      generalize ((marked s ps n k).getD k (0, 0)).2 = z1 at hd1
      go_wp2
      go_roundw
      case rel => exact ⟨k + 1, by omega, by go_num, by go_num, unhide HO, unhide HG⟩
      case measure => simp [intOf]; omega
    · obtain rfl : k = n := by omega
      rw [marked_all s ps k hl] at hown
      have HO := hide hown
      have HG := hide hg
      clear hown hg
      go_wp2
      go_ret
      exact ⟨rfl, unhide HO, unhide HG⟩
theorem sz_yes (a : Option Addr) (len cap : Nat) (l : Int) (w : World) (h : (len : Int) ≤ l) (hl : l ≤ 1048576) :
    Calls Tryz.prog 17 #[.slice a len cap, .int .i64 l] w fun e w' => e = .returned (.int .i64 (l - (len : Int))) ∧ w' = w := by
  have h1 : (0 : Int) ≤ l - (len : Int) := by omega
  have h2 : wrap64 (l - (len : Int)) = l - (len : Int) := by rw [wrap64]; omega
  go_enter Tryz.func17, Tryz.ntmps17
  go_wp2
  go_ret
  exact ⟨rfl, rfl⟩
theorem sz_no (a : Option Addr) (len cap : Nat) (l : Int) (w : World) (h : ¬ (len : Int) ≤ l) (hl : l ≤ 1048576) (h0 : 0 ≤ l) (hm : len ≤ 9223372036854775807) :
    Calls Tryz.prog 17 #[.slice a len cap, .int .i64 l] w fun e w' => e = .returned (.int .i64 (-1)) ∧ w' = w := by
  have h1 : l - (len : Int) < 0 := by omega
  have h2 : wrap64 (l - (len : Int)) = l - (len : Int) := by rw [wrap64]; omega
  go_enter Tryz.func17, Tryz.ntmps17
  go_wp2
  go_ret
  exact ⟨rfl, rfl⟩
end Go.Proofs.YtefcigaalgfmiaaGreat.InstrMark
namespace Go.Proofs.YtefcigaalgfmiaaGreat.BalHelp
open Go.ChangeShapes Go.WideShapes Go.ChangeAt Go.RowKit Bals Triples
theorem info2 : (Tryz.prog.info? 85).map (fun i => (i.zero, i.size, i.bytes)) = some (some (.agg #[.int .i64 0, .int .i64 0, .int .i64 0]), 3, 24) := by kernel_rfl
set_option maxRecDepth 100000 in
theorem to1 (w : World) (x y z : Int) : Calls Tryz.prog 53 #[.agg #[.int .i64 x, .int .i64 y, .int .i64 z]] w fun e w' => e = .returned (.agg #[.int .i64 x, .int .i64 y, .int .i64 z]) ∧ Below w.heap.size w w' := by
  go_enter Tryz.func53, Tryz.ntmps53
  go_wp2
  refine bodyPost_ret (v := .agg #[.int .i64 x, .int .i64 y, .int .i64 z]) (by simp [results, Tryz.results53, go_sem]) rfl ⟨rfl, ?_⟩
  exact (((Below.refl _ _).alloc (Nat.le_refl _) _).alloc (by simp) _).alloc (by simp; omega) _
theorem made_triples (n : Nat) : (madeCells (Value.agg #[.int .i64 0, .int .i64 0, .int .i64 0]).cells (n * 3)).toList = flat3 (List.replicate n (0, 0, 0)) := by
  apply List.ext_getElem?
  intro j
  by_cases hj : j < n * 3
  · have hs : (Value.agg #[Value.int .i64 0, Value.int .i64 0, Value.int .i64 0]).cells = #[Value.int .i64 0, Value.int .i64 0, Value.int .i64 0] := rfl
    rw [hs]
    obtain ⟨f0, f1, f2⟩ := flat3_get (List.replicate n (0, 0, 0)) (j / 3) (by simp; omega)
    have hg : (List.replicate n ((0 : Int), (0 : Int), (0 : Int))).getD (j / 3) (0, 0, 0) = (0, 0, 0) := by simp [List.getD, show j / 3 < n by omega]
    unfold el3 at f0 f1 f2
    rw [hg] at f0 f1 f2
    rcases (show j % 3 = 0 ∨ j % 3 = 1 ∨ j % 3 = 2 by omega) with e | e | e
    · rw [show j / 3 * 3 = j by omega] at f0
      rw [f0]
      simp [madeCells, hj, e]
    · rw [show j / 3 * 3 + 1 = j by omega] at f1
      rw [f1]
      simp [madeCells, hj, e]
    · rw [show j / 3 * 3 + 2 = j by omega] at f2
      rw [f2]
      simp [madeCells, hj, e]
  · rw [List.getElem?_eq_none (by simp [madeCells]; omega), List.getElem?_eq_none (by rw [flat3_len]; simp; omega)]
/-- The triples so far, and zeros behind. -/
def part (ps : List T3) (n k : Nat) : List T3 := ps.take k ++ List.replicate (n - k) (0, 0, 0)
theorem part_zero (ps : List T3) (n : Nat) : part ps n 0 = List.replicate n (0, 0, 0) := by simp [part]
theorem part_all (ps : List T3) (n : Nat) (h : ps.length = n) : part ps n n = ps := by
  unfold part
  rw [← h]; simp
theorem part_step (ps : List T3) (n k : Nat) (h : ps.length = n) (hk : k < n) : (((part ps n k).modify k fun p => ((el3 ps k).1, p.2)).modify k (fun p => (p.1, (el3 ps k).2.1, p.2.2))).modify k (fun p => (p.1, p.2.1, (el3 ps k).2.2)) = part ps n (k + 1) := by
  subst h
  unfold part
  apply List.ext_getElem?
  intro j
  have l1 : (ps.take k).length = k := by simp; omega
  have l2 : (ps.take (k + 1)).length = k + 1 := by simp; omega
  rw [List.getElem?_modify, List.getElem?_modify, List.getElem?_modify]
  by_cases e : k = j
  · subst e
    rw [List.getElem?_append_right (by omega), List.getElem?_append_left (by omega), List.getElem?_take, if_pos (by omega), l1]
    simp [List.getD, hk, show 0 < ps.length - k by omega]
  · by_cases l : j < k
    · rw [List.getElem?_append_left (by omega), List.getElem?_append_left (by omega), List.getElem?_take, List.getElem?_take, if_pos l, if_pos (by omega)]
      simp [e]
    · rw [List.getElem?_append_right (by omega), List.getElem?_append_right (by omega), l1, l2]
      simp only [List.getElem?_replicate]
      by_cases m : j < ps.length
      · rw [if_pos (by omega), if_pos (by omega)]; simp [e]
      · rw [if_neg (by omega), if_neg (by omega)]; simp [e]
set_option maxRecDepth 100000 in
theorem toS (w : World) (a : Option Addr) (len cap : Nat) (ps : List T3) (hl : ps.length = len) (h20 : len ≤ 1048576) (hr : Reads3 w a ps) :
    Calls Tryz.prog 26 #[.slice a len cap] w fun e w' => e = .returned (.slice (some ⟨w.heap.size, 0, none⟩) len len) ∧ Own3 85 w' w.heap.size w.heap.size len len ps ∧ Below w.heap.size w w' := by
  obtain ⟨i0, hi, hz0, hz1, hz2⟩ := info_parts info2
  go_enter Tryz.func26, Tryz.ntmps26
  go_wp2_with (at_make; refine wpList_make_full _ rfl _ _ 35 rfl w.heap.size 85 i0 (.agg #[.int .i64 0, .int .i64 0, .int .i64 0]) 3 Tryz.underlying35 hi hz0 hz1 .i64 .i64 _ _ len rfl rfl rfl rfl (by rw [hz2]; omega) (by unfold maxLen; omega) (Nat.le_refl _) ?_; intro w1 hown hgrow)
  rw [made_triples, ← part_zero ps] at hown
  have hb := grownBy_below hgrow
  have hown : Own3 85 w1 w.heap.size w.heap.size len len (part ps len 0) := hown
  clear hgrow
  go_loopw [4] (fun i wr => ∃ (k : Nat), k ≤ len ∧ i = .int .i64 k ∧ Own3 85 wr w.heap.size w.heap.size len len (part ps len k) ∧ Below w.heap.size w wr) (fun i _ => len - (intOf i).toNat)
  case atStart => exact ⟨0, by omega, rfl, hown, hb⟩
  case round =>
    clear hown hb
    obtain ⟨k, hk, rfl, hown, hb⟩ := hrel
    by_cases t : k < len
    · rcases hr with hz | ⟨b, off, rfl, hlt, hcell⟩
      · omega
      have hc0 := (hb.cell (p := ⟨b, off + k * 3, none⟩) hlt).trans (hcell k (by omega)).1
      have hc1 := (hb.cell (p := ⟨b, off + k * 3 + 1, none⟩) hlt).trans (hcell k (by omega)).2.1
      have hc2 := (hb.cell (p := ⟨b, off + k * 3 + 2, none⟩) hlt).trans (hcell k (by omega)).2.2
      clear hcell
      have HO := hide hown
      have HB := hide hb
      clear hown hb
      have PS := hide (part_step ps len k hl t)
      generalize (el3 ps k).1 = x at *
      generalize (el3 ps k).2.1 = y at *
      generalize (el3 ps k).2.2 = z at *
      go_wp2_with fail
      refine (to1 _ x y z).mono ?_
      rintro e w2 ⟨rfl, b2⟩
      have o2 := (unhide HO).below b2 (unhide HO).lt.2
      have hb2 := (unhide HB).trans (b2.mono (unhide HB).size)
      clear HO HB b2 hc0 hc1 hc2
      have hs := o2.set0 k x
      have hs2 := hs.1.set1 k y
      have hs3 := hs2.1.set2 k z
      have hd := o2.at k (by rw [o2.len]; exact t)
      have hd0 := hd.1
      have hd1 := hd.2.1
      have hd2 := hd.2.2
      have hf0 := o2.free (k * 3)
      have hf1 := o2.free (k * 3 + 1)
      have hf2 := o2.free (k * 3 + 2)
      have HS := hide hs3.1
      have HB := hide (((hb2.setCell (p := ⟨w.heap.size, k * 3, none⟩) (Nat.le_refl _) (.int .i64 x)).setCell (p := ⟨w.heap.size, k * 3 + 1, none⟩) (Nat.le_refl _) (.int .i64 y)).setCell (p := ⟨w.heap.size, k * 3 + 2, none⟩) (Nat.le_refl _) (.int .i64 z))
      clear hs hs2 hs3 hd o2 hb2
      go_wp2
      go_roundw
      case rel =>
        have o := unhide HS
        rw [unhide PS] at o
        exact ⟨k + 1, by omega, by go_num, o, unhide HB⟩
      case measure => simp [intOf]; omega
    · obtain rfl : k = len := by omega
      rw [part_all ps k hl] at hown
      have HO := hide hown
      have HB := hide hb
      clear hown hb hr
      go_wp2
      go_ret
      exact ⟨rfl, unhide HO, unhide HB⟩
set_option maxRecDepth 100000 in
theorem eq1 (w : World) (x y z : Int) : Calls Tryz.prog 59 #[.agg #[.int .i64 x, .int .i64 y, .int .i64 z], .agg #[.int .i64 x, .int .i64 y, .int .i64 z]] w fun e w' => e = .returned (.bool true) ∧ w' = (w.alloc (.cells #[.int .i64 x, .int .i64 y, .int .i64 z] 85)).alloc (.cells #[.int .i64 x, .int .i64 y, .int .i64 z] 85) := by
  go_enter Tryz.func59, Tryz.ntmps59
  go_wp2
  go_ret
  exact ⟨rfl, rfl⟩
theorem two_more (w : World) (o p : Obj) : Below w.heap.size w ((w.alloc o).alloc p).drew := (((Below.refl _ _).alloc (Nat.le_refl _) _).alloc (by simp) _).drew
set_option maxRecDepth 100000 in
theorem eqS (w : World) (g1 g2 n c1 c2 : Nat) (ps : List T3) (hl : ps.length = n) (h20 : n ≤ 1048576) (l1 : g1 < w.heap.size) (l2 : g2 < w.heap.size) (h1 : At3 w g1 ps) (h2 : At3 w g2 ps) :
    Calls Tryz.prog 32 #[.slice (some ⟨g1, 0, none⟩) n c1, .slice (some ⟨g2, 0, none⟩) n c2] w fun e w' => e = .returned (.bool true) ∧ Below w.heap.size w w' := by
  go_enter Tryz.func32, Tryz.ntmps32
  go_wp2
  go_loopw [5] (fun i wr => ∃ (k : Nat), k ≤ n ∧ i = .int .i64 k ∧ At3 wr g1 ps ∧ At3 wr g2 ps ∧ Below w.heap.size w wr) (fun i _ => n - (intOf i).toNat)
  case atStart => exact ⟨0, by omega, rfl, h1, h2, Below.refl _ _⟩
  case round =>
    clear h1 h2
    obtain ⟨k, hk, rfl, h1, h2, hb⟩ := hrel
    by_cases t : k < n
    · obtain ⟨e1, f1, i1⟩ := h1 k (by omega)
      obtain ⟨e2, f2, i2⟩ := h2 k (by omega)
      have s := hb.size
      have H1 := hide h1
      have H2 := hide h2
      have HB := hide hb
      clear h1 h2 hb
      generalize (el3 ps k).1 = x at *
      generalize (el3 ps k).2.1 = y at *
      generalize (el3 ps k).2.2 = z at *
      go_wp2_with fail
      go_region_held3 (fun w' => w'.cell? ⟨g1, k * 3, none⟩ = some (.int .i64 x) ∧ w'.cell? ⟨g2, k * 3, none⟩ = some (.int .i64 x) ∧ w'.cell? ⟨g1, k * 3 + 1, none⟩ = some (.int .i64 y) ∧ w'.cell? ⟨g2, k * 3 + 1, none⟩ = some (.int .i64 y) ∧ w'.cell? ⟨g1, k * 3 + 2, none⟩ = some (.int .i64 z) ∧ w'.cell? ⟨g2, k * 3 + 2, none⟩ = some (.int .i64 z)) (go_keep)
        (first | (go_at_call 59; refine (eq1 _ _ _ _).mono ?_; rintro e w2 ⟨rfl, rfl⟩))
      all_goals (go_wp2; go_roundw)
      all_goals first
        | (have b2 := two_more wr (.cells #[.int .i64 x, .int .i64 y, .int .i64 z] 85) (.cells #[.int .i64 x, .int .i64 y, .int .i64 z] 85)
           exact ⟨k + 1, by omega, by go_num, (unhide H1).below b2 (by omega), (unhide H2).below b2 (by omega), next (unhide HB) b2⟩)
        | (simp [intOf]; omega)
    · have HB := hide hb
      clear h1 h2 hb
      go_wp2
      go_ret
      exact ⟨rfl, unhide HB⟩
/-- The marks: numbers from s on, three a triple. -/
def marks (s : Int) (n : Nat) : List T3 := (List.range n).map fun (i : Nat) => (s + 3 * (i : Int), s + 3 * (i : Int) + 1, s + 3 * (i : Int) + 2)
theorem marks_len (s : Int) (n : Nat) : (marks s n).length = n := by simp [marks]
theorem marks_getD (s : Int) (n i : Nat) (h : i < n) : el3 (marks s n) i = (s + 3 * (i : Int), s + 3 * (i : Int) + 1, s + 3 * (i : Int) + 2) := by simp [marks, List.getD, h]
/-- The marks so far, and what stood behind. -/
def marked (s : Int) (ps : List T3) (n j : Nat) : List T3 := (marks s n).take j ++ ps.drop j
theorem marked_zero (s : Int) (ps : List T3) (n : Nat) : marked s ps n 0 = ps := by simp [marked]
theorem marked_all (s : Int) (ps : List T3) (n : Nat) (h : ps.length = n) : marked s ps n n = marks s n := by
  unfold marked
  rw [List.take_of_length_le (by rw [marks_len]; exact Nat.le_refl _), List.drop_of_length_le (by omega), List.append_nil]
theorem marked_step (s : Int) (ps : List T3) (n j : Nat) (h : ps.length = n) (hj : j < n) : (((marked s ps n j).modify j fun p => (s + 3 * (j : Int), p.2)).modify j (fun p => (p.1, s + 3 * (j : Int) + 1, p.2.2))).modify j (fun p => (p.1, p.2.1, s + 3 * (j : Int) + 1 + 1)) = marked s ps n (j + 1) := by
  unfold marked
  have l := marks_len s n
  have g := marks_getD s n j hj
  have l1 : ((marks s n).take j).length = j := by simp; omega
  have l2 : ((marks s n).take (j + 1)).length = j + 1 := by simp; omega
  apply List.ext_getElem?
  intro i
  rw [List.getElem?_modify, List.getElem?_modify, List.getElem?_modify]
  by_cases e : j = i
  · subst e
    rw [List.getElem?_append_right (by omega), List.getElem?_append_left (by omega), List.getElem?_take, if_pos (by omega), l1]
    have hg : (marks s n)[j]? = some (s + 3 * (j : Int), s + 3 * (j : Int) + 1, s + 3 * (j : Int) + 2) := by
      rw [← g]; simp [List.getD, l, hj]
    rw [hg]
    simp [List.getElem?_drop, h, hj]
    omega
  · by_cases d : i < j
    · rw [List.getElem?_append_left (by omega), List.getElem?_append_left (by omega), List.getElem?_take, List.getElem?_take, if_pos d, if_pos (by omega)]
      simp [e]
    · rw [List.getElem?_append_right (by omega), List.getElem?_append_right (by omega), l1, l2]
      simp only [List.getElem?_drop]
      rw [show j + (i - j) = i by omega, show j + 1 + (i - (j + 1)) = i by omega]
      simp [e]
set_option maxRecDepth 100000 in
theorem markS (w : World) (base g n cap : Nat) (s : Int) (ps : List T3) (h20 : n ≤ 1048576) (s0 : 0 ≤ s) (s1 : s ≤ 100000000) (ho : Own3 85 w base g n cap ps) :
    Calls Tryz.prog 37 #[.slice (some ⟨g, 0, none⟩) n cap, .int .i64 s] w fun e w' => e = .returned (.int .i64 (s + 3 * (n : Int))) ∧ Own3 85 w' base g n cap (marks s n) ∧ w.grownBy w' (some g) := by
  have hl := ho.len
  have ho' : Own3 85 w base g n cap (marked s ps n 0) := by rw [marked_zero]; exact ho
  clear ho
  go_enter Tryz.func37, Tryz.ntmps37
  go_wp2
  go_loopw [1, 5] (fun m i wr => ∃ (k : Nat), k ≤ n ∧ i = .int .i64 k ∧ m = .int .i64 (s + 3 * (k : Int)) ∧ Own3 85 wr base g n cap (marked s ps n k) ∧ w.grownBy wr (some g)) (fun _ i _ => n - (intOf i).toNat)
  case atStart => exact ⟨0, by omega, rfl, by go_num, ho', World.grownBy.refl _ _⟩
  case round =>
    clear ho'
    obtain ⟨k, hk, rfl, rfl, hown, hg⟩ := hrel
    by_cases t : k < n
    · obtain ⟨o1, q1⟩ := hown.set0 k (s + 3 * (k : Int))
      obtain ⟨o2, q2⟩ := o1.set1 k (s + 3 * (k : Int) + 1)
      obtain ⟨o3, q3⟩ := o2.set2 k (s + 3 * (k : Int) + 1 + 1)
      obtain ⟨hd0, hd1, hd2⟩ := hown.at k (by rw [Own3.len hown]; exact t)
      have hf0 := hown.free (k * 3)
      have hf1 := hown.free (k * 3 + 1)
      have hf2 := hown.free (k * 3 + 2)
      rw [marked_step s ps n k hl t] at o3
      have HO := hide o3
      have HG := hide (grown_trans (grown_trans (grown_trans hg q1) q2) q3)
      clear hown hg o1 q1 o2 q2 o3 q3
      generalize (el3 (marked s ps n k) k).1 = z0 at hd0
      generalize (el3 (marked s ps n k) k).2.1 = z1 at hd1
      generalize (el3 (marked s ps n k) k).2.2 = z2 at hd2
      have r1 : IntKind.i64.wrap (s + 3 * (k : Int) + 1) = s + 3 * (k : Int) + 1 := by rw [IntKind.wrap_i64]; omega
      have r2 : IntKind.i64.wrap (s + 3 * (k : Int) + 1 + 1) = s + 3 * (k : Int) + 1 + 1 := by rw [IntKind.wrap_i64]; omega
      have r3 : IntKind.i64.wrap (s + 3 * (k : Int) + 1 + 1 + 1) = s + 3 * (k : Int) + 1 + 1 + 1 := by rw [IntKind.wrap_i64]; omega
      go_wp2
      go_roundw
      case rel => exact ⟨k + 1, by omega, by go_num, by go_num, unhide HO, unhide HG⟩
      case measure => simp [intOf]; omega
    · obtain rfl : k = n := by omega
      rw [marked_all s ps k hl] at hown
      have HO := hide hown
      have HG := hide hg
      clear hown hg
      go_wp2
      go_ret
      exact ⟨rfl, unhide HO, unhide HG⟩
theorem sz_yes (a : Option Addr) (len cap : Nat) (l : Int) (w : World) (h : (len : Int) ≤ l) (hl : l ≤ 1048576) :
    Calls Tryz.prog 18 #[.slice a len cap, .int .i64 l] w fun e w' => e = .returned (.int .i64 (l - (len : Int))) ∧ w' = w := by
  have h1 : (0 : Int) ≤ l - (len : Int) := by omega
  have h2 : wrap64 (l - (len : Int)) = l - (len : Int) := by rw [wrap64]; omega
  go_enter Tryz.func18, Tryz.ntmps18
  go_wp2
  go_ret
  exact ⟨rfl, rfl⟩
theorem sz_no (a : Option Addr) (len cap : Nat) (l : Int) (w : World) (h : ¬ (len : Int) ≤ l) (hl : l ≤ 1048576) (h0 : 0 ≤ l) (hm : len ≤ 9223372036854775807) :
    Calls Tryz.prog 18 #[.slice a len cap, .int .i64 l] w fun e w' => e = .returned (.int .i64 (-1)) ∧ w' = w := by
  have h1 : l - (len : Int) < 0 := by omega
  have h2 : wrap64 (l - (len : Int)) = l - (len : Int) := by rw [wrap64]; omega
  go_enter Tryz.func18, Tryz.ntmps18
  go_wp2
  go_ret
  exact ⟨rfl, rfl⟩
end Go.Proofs.YtefcigaalgfmiaaGreat.BalHelp
namespace Go.Proofs.YtefcigaalgfmiaaGreat.LotHelp
open Go.ChangeShapes Go.WideShapes Go.ChangeAt Go.RowKit Tup5
theorem info2 : (Tryz.prog.info? 87).map (fun i => (i.zero, i.size, i.bytes)) = some (some (.agg #[.int .i64 0, .int .i64 0, .int .i64 0, .int .i64 0, .int .i64 0]), 5, 40) := by kernel_rfl
set_option maxRecDepth 100000 in
theorem to1 (w : World) (x0 x1 x2 x3 x4 : Int) : Calls Tryz.prog 54 #[.agg #[.int .i64 x0, .int .i64 x1, .int .i64 x2, .int .i64 x3, .int .i64 x4]] w fun e w' => e = .returned (.agg #[.int .i64 x0, .int .i64 x1, .int .i64 x2, .int .i64 x3, .int .i64 x4]) ∧ Below w.heap.size w w' := by
  go_enter Tryz.func54, Tryz.ntmps54
  go_wp2
  refine bodyPost_ret (v := .agg #[.int .i64 x0, .int .i64 x1, .int .i64 x2, .int .i64 x3, .int .i64 x4]) (by simp [results, Tryz.results54, go_sem]) rfl ⟨rfl, ?_⟩
  exact (((Below.refl _ _).alloc (Nat.le_refl _) _).alloc (by simp) _).alloc (by simp; omega) _
theorem made (n : Nat) : (madeCells (Value.agg #[.int .i64 0, .int .i64 0, .int .i64 0, .int .i64 0, .int .i64 0]).cells (n * 5)).toList = flat5 (List.replicate n (0, 0, 0, 0, 0)) := by
  apply List.ext_getElem?
  intro j
  by_cases hj : j < n * 5
  · have hs : (Value.agg #[Value.int .i64 0, Value.int .i64 0, Value.int .i64 0, Value.int .i64 0, Value.int .i64 0]).cells = #[Value.int .i64 0, Value.int .i64 0, Value.int .i64 0, Value.int .i64 0, Value.int .i64 0] := rfl
    rw [hs]
    obtain ⟨f0, f1, f2, f3, f4⟩ := flat5_get (List.replicate n (0, 0, 0, 0, 0)) (j / 5) (by simp; omega)
    have hg : (List.replicate n (((0 : Int), (0 : Int), (0 : Int), (0 : Int), (0 : Int)) : T5)).getD (j / 5) (0, 0, 0, 0, 0) = (0, 0, 0, 0, 0) := by simp [List.getD, show j / 5 < n by omega]
    unfold el5 at f0 f1 f2 f3 f4
    rw [hg] at f0 f1 f2 f3 f4
    rcases (show j % 5 = 0 ∨ j % 5 = 1 ∨ j % 5 = 2 ∨ j % 5 = 3 ∨ j % 5 = 4 by omega) with e | e | e | e | e
    · rw [show j / 5 * 5 = j by omega] at f0
      rw [f0]
      simp [madeCells, hj, e]
    · rw [show j / 5 * 5 + 1 = j by omega] at f1
      rw [f1]
      simp [madeCells, hj, e]
    · rw [show j / 5 * 5 + 2 = j by omega] at f2
      rw [f2]
      simp [madeCells, hj, e]
    · rw [show j / 5 * 5 + 3 = j by omega] at f3
      rw [f3]
      simp [madeCells, hj, e]
    · rw [show j / 5 * 5 + 4 = j by omega] at f4
      rw [f4]
      simp [madeCells, hj, e]
  · rw [List.getElem?_eq_none (by simp [madeCells]; omega), List.getElem?_eq_none (by rw [flat5_len]; simp; omega)]
/-- The elements so far, and zeros behind. -/
def part (ps : List T5) (n k : Nat) : List T5 := ps.take k ++ List.replicate (n - k) (0, 0, 0, 0, 0)
theorem part_zero (ps : List T5) (n : Nat) : part ps n 0 = List.replicate n (0, 0, 0, 0, 0) := by simp [part]
theorem part_all (ps : List T5) (n : Nat) (h : ps.length = n) : part ps n n = ps := by
  unfold part
  rw [← h]; simp
theorem part_step (ps : List T5) (n k : Nat) (h : ps.length = n) (hk : k < n) : (((((part ps n k).modify k (fun p => ((el5 ps k).1, p.2.1, p.2.2.1, p.2.2.2.1, p.2.2.2.2))).modify k (fun p => (p.1, (el5 ps k).2.1, p.2.2.1, p.2.2.2.1, p.2.2.2.2))).modify k (fun p => (p.1, p.2.1, (el5 ps k).2.2.1, p.2.2.2.1, p.2.2.2.2))).modify k (fun p => (p.1, p.2.1, p.2.2.1, (el5 ps k).2.2.2.1, p.2.2.2.2))).modify k (fun p => (p.1, p.2.1, p.2.2.1, p.2.2.2.1, (el5 ps k).2.2.2.2)) = part ps n (k + 1) := by
  subst h
  unfold part
  apply List.ext_getElem?
  intro j
  have l1 : (ps.take k).length = k := by simp; omega
  have l2 : (ps.take (k + 1)).length = k + 1 := by simp; omega
  rw [List.getElem?_modify, List.getElem?_modify, List.getElem?_modify, List.getElem?_modify, List.getElem?_modify]
  by_cases e : k = j
  · subst e
    rw [List.getElem?_append_right (by omega), List.getElem?_append_left (by omega), List.getElem?_take, if_pos (by omega), l1]
    simp [List.getD, hk, show 0 < ps.length - k by omega]
  · by_cases l : j < k
    · rw [List.getElem?_append_left (by omega), List.getElem?_append_left (by omega), List.getElem?_take, List.getElem?_take, if_pos l, if_pos (by omega)]
      simp [e]
    · rw [List.getElem?_append_right (by omega), List.getElem?_append_right (by omega), l1, l2]
      simp only [List.getElem?_replicate]
      by_cases m : j < ps.length
      · rw [if_pos (by omega), if_pos (by omega)]; simp [e]
      · rw [if_neg (by omega), if_neg (by omega)]; simp [e]
set_option maxRecDepth 100000 in
set_option maxHeartbeats 1000000 in
theorem toS (w : World) (a : Option Addr) (len cap : Nat) (ps : List T5) (hl : ps.length = len) (h20 : len ≤ 1048576) (hr : Reads5 w a ps) :
    Calls Tryz.prog 27 #[.slice a len cap] w fun e w' => e = .returned (.slice (some ⟨w.heap.size, 0, none⟩) len len) ∧ Own5 87 w' w.heap.size w.heap.size len len ps ∧ Below w.heap.size w w' := by
  obtain ⟨i0, hi, hz0, hz1, hz2⟩ := info_parts info2
  go_enter Tryz.func27, Tryz.ntmps27
  go_wp2_with (at_make; refine wpList_make_full _ rfl _ _ 36 rfl w.heap.size 87 i0 (.agg #[.int .i64 0, .int .i64 0, .int .i64 0, .int .i64 0, .int .i64 0]) 5 Tryz.underlying36 hi hz0 hz1 .i64 .i64 _ _ len rfl rfl rfl rfl (by rw [hz2]; omega) (by unfold maxLen; omega) (Nat.le_refl _) ?_; intro w1 hown hgrow)
  rw [made, ← part_zero ps] at hown
  have hb := grownBy_below hgrow
  have hown : Own5 87 w1 w.heap.size w.heap.size len len (part ps len 0) := hown
  clear hgrow
  go_loopw [4] (fun i wr => ∃ (k : Nat), k ≤ len ∧ i = .int .i64 k ∧ Own5 87 wr w.heap.size w.heap.size len len (part ps len k) ∧ Below w.heap.size w wr) (fun i _ => len - (intOf i).toNat)
  case atStart => exact ⟨0, by omega, rfl, hown, hb⟩
  case round =>
    clear hown hb
    obtain ⟨k, hk, rfl, hown, hb⟩ := hrel
    by_cases t : k < len
    · rcases hr with hz | ⟨b, off, rfl, hlt, hcell⟩
      · omega
      have hc0 := (hb.cell (p := ⟨b, off + k * 5, none⟩) hlt).trans (hcell k (by omega)).1
      have hc1 := (hb.cell (p := ⟨b, off + k * 5 + 1, none⟩) hlt).trans (hcell k (by omega)).2.1
      have hc2 := (hb.cell (p := ⟨b, off + k * 5 + 2, none⟩) hlt).trans (hcell k (by omega)).2.2.1
      have hc3 := (hb.cell (p := ⟨b, off + k * 5 + 3, none⟩) hlt).trans (hcell k (by omega)).2.2.2.1
      have hc4 := (hb.cell (p := ⟨b, off + k * 5 + 4, none⟩) hlt).trans (hcell k (by omega)).2.2.2.2
      clear hcell
      have HO := hide hown
      have HB := hide hb
      clear hown hb
      have PS := hide (part_step ps len k hl t)
      generalize (el5 ps k).1 = x0 at *
      generalize (el5 ps k).2.1 = x1 at *
      generalize (el5 ps k).2.2.1 = x2 at *
      generalize (el5 ps k).2.2.2.1 = x3 at *
      generalize (el5 ps k).2.2.2.2 = x4 at *
      go_wp2_with fail
      refine (to1 _ x0 x1 x2 x3 x4).mono ?_
      rintro e w2 ⟨rfl, b2⟩
      have o2 := (unhide HO).below b2 (unhide HO).lt.2
      have hb2 := (unhide HB).trans (b2.mono (unhide HB).size)
      clear HO HB b2 hc0 hc1 hc2 hc3 hc4
      have hs0 := o2.set0 k x0
      have hs1 := hs0.1.set1 k x1
      have hs2 := hs1.1.set2 k x2
      have hs3 := hs2.1.set3 k x3
      have hs4 := hs3.1.set4 k x4
      have hd := o2.at k (by rw [o2.len]; exact t)
      have hd0 := hd.1
      have hd1 := hd.2.1
      have hd2 := hd.2.2.1
      have hd3 := hd.2.2.2.1
      have hd4 := hd.2.2.2.2
      have hf0 := o2.free (k * 5)
      have hf1 := o2.free (k * 5 + 1)
      have hf2 := o2.free (k * 5 + 2)
      have hf3 := o2.free (k * 5 + 3)
      have hf4 := o2.free (k * 5 + 4)
      have HS := hide hs4.1
      have HB := hide (((((hb2.setCell (p := ⟨w.heap.size, k * 5, none⟩) (Nat.le_refl _) (.int .i64 x0)).setCell (p := ⟨w.heap.size, k * 5 + 1, none⟩) (Nat.le_refl _) (.int .i64 x1)).setCell (p := ⟨w.heap.size, k * 5 + 2, none⟩) (Nat.le_refl _) (.int .i64 x2)).setCell (p := ⟨w.heap.size, k * 5 + 3, none⟩) (Nat.le_refl _) (.int .i64 x3)).setCell (p := ⟨w.heap.size, k * 5 + 4, none⟩) (Nat.le_refl _) (.int .i64 x4))
      clear hs0 hs1 hs2 hs3 hs4 hd o2 hb2
      go_wp2
      go_roundw
      case rel =>
        have o := unhide HS
        rw [unhide PS] at o
        exact ⟨k + 1, by omega, by go_num, o, unhide HB⟩
      case measure => simp [intOf]; omega
    · obtain rfl : k = len := by omega
      rw [part_all ps k hl] at hown
      have HO := hide hown
      have HB := hide hb
      clear hown hb hr
      go_wp2
      go_ret
      exact ⟨rfl, unhide HO, unhide HB⟩
set_option maxRecDepth 100000 in
theorem eq1 (w : World) (x0 x1 x2 x3 x4 : Int) : Calls Tryz.prog 60 #[.agg #[.int .i64 x0, .int .i64 x1, .int .i64 x2, .int .i64 x3, .int .i64 x4], .agg #[.int .i64 x0, .int .i64 x1, .int .i64 x2, .int .i64 x3, .int .i64 x4]] w fun e w' => e = .returned (.bool true) ∧ w' = (w.alloc (.cells #[.int .i64 x0, .int .i64 x1, .int .i64 x2, .int .i64 x3, .int .i64 x4] 87)).alloc (.cells #[.int .i64 x0, .int .i64 x1, .int .i64 x2, .int .i64 x3, .int .i64 x4] 87) := by
  go_enter Tryz.func60, Tryz.ntmps60
  go_wp2
  go_ret
  exact ⟨rfl, rfl⟩
theorem two_more (w : World) (o p : Obj) : Below w.heap.size w ((w.alloc o).alloc p).drew := (((Below.refl _ _).alloc (Nat.le_refl _) _).alloc (by simp) _).drew
set_option maxRecDepth 100000 in
set_option maxHeartbeats 1000000 in
theorem eqS (w : World) (g1 g2 n c1 c2 : Nat) (ps : List T5) (hl : ps.length = n) (h20 : n ≤ 1048576) (l1 : g1 < w.heap.size) (l2 : g2 < w.heap.size) (h1 : At5 w g1 ps) (h2 : At5 w g2 ps) :
    Calls Tryz.prog 33 #[.slice (some ⟨g1, 0, none⟩) n c1, .slice (some ⟨g2, 0, none⟩) n c2] w fun e w' => e = .returned (.bool true) ∧ Below w.heap.size w w' := by
  go_enter Tryz.func33, Tryz.ntmps33
  go_wp2
  go_loopw [5] (fun i wr => ∃ (k : Nat), k ≤ n ∧ i = .int .i64 k ∧ At5 wr g1 ps ∧ At5 wr g2 ps ∧ Below w.heap.size w wr) (fun i _ => n - (intOf i).toNat)
  case atStart => exact ⟨0, by omega, rfl, h1, h2, Below.refl _ _⟩
  case round =>
    clear h1 h2
    obtain ⟨k, hk, rfl, h1, h2, hb⟩ := hrel
    by_cases t : k < n
    · obtain ⟨e0, e1, e2, e3, e4⟩ := h1 k (by omega)
      obtain ⟨f0, f1, f2, f3, f4⟩ := h2 k (by omega)
      have s := hb.size
      have H1 := hide h1
      have H2 := hide h2
      have HB := hide hb
      clear h1 h2 hb
      generalize (el5 ps k).1 = x0 at *
      generalize (el5 ps k).2.1 = x1 at *
      generalize (el5 ps k).2.2.1 = x2 at *
      generalize (el5 ps k).2.2.2.1 = x3 at *
      generalize (el5 ps k).2.2.2.2 = x4 at *
      go_wp2_with fail
      go_region_held3 (fun w' => w'.cell? ⟨g1, k * 5, none⟩ = some (.int .i64 x0) ∧ w'.cell? ⟨g2, k * 5, none⟩ = some (.int .i64 x0) ∧ w'.cell? ⟨g1, k * 5 + 1, none⟩ = some (.int .i64 x1) ∧ w'.cell? ⟨g2, k * 5 + 1, none⟩ = some (.int .i64 x1) ∧ w'.cell? ⟨g1, k * 5 + 2, none⟩ = some (.int .i64 x2) ∧ w'.cell? ⟨g2, k * 5 + 2, none⟩ = some (.int .i64 x2) ∧ w'.cell? ⟨g1, k * 5 + 3, none⟩ = some (.int .i64 x3) ∧ w'.cell? ⟨g2, k * 5 + 3, none⟩ = some (.int .i64 x3) ∧ w'.cell? ⟨g1, k * 5 + 4, none⟩ = some (.int .i64 x4) ∧ w'.cell? ⟨g2, k * 5 + 4, none⟩ = some (.int .i64 x4)) (go_keep)
        (first | (go_at_call 60; refine (eq1 _ _ _ _ _ _).mono ?_; rintro e w2 ⟨rfl, rfl⟩))
      all_goals (go_wp2; go_roundw)
      all_goals first
        | (have b2 := two_more wr (.cells #[.int .i64 x0, .int .i64 x1, .int .i64 x2, .int .i64 x3, .int .i64 x4] 87) (.cells #[.int .i64 x0, .int .i64 x1, .int .i64 x2, .int .i64 x3, .int .i64 x4] 87)
           exact ⟨k + 1, by omega, by go_num, (unhide H1).below b2 (by omega), (unhide H2).below b2 (by omega), next (unhide HB) b2⟩)
        | (simp [intOf]; omega)
    · have HB := hide hb
      clear h1 h2 hb
      go_wp2
      go_ret
      exact ⟨rfl, unhide HB⟩
/-- The marks: numbers from s on, 5 an element. -/
def marks (s : Int) (n : Nat) : List T5 := (List.range n).map fun (i : Nat) => (s + 5 * (i : Int), s + 5 * (i : Int) + 1, s + 5 * (i : Int) + 2, s + 5 * (i : Int) + 3, s + 5 * (i : Int) + 4)
theorem marks_len (s : Int) (n : Nat) : (marks s n).length = n := by simp [marks]
theorem marks_getD (s : Int) (n i : Nat) (h : i < n) : el5 (marks s n) i = (s + 5 * (i : Int), s + 5 * (i : Int) + 1, s + 5 * (i : Int) + 2, s + 5 * (i : Int) + 3, s + 5 * (i : Int) + 4) := by simp [marks, List.getD, h]
/-- The marks so far, and what stood behind. -/
def marked (s : Int) (ps : List T5) (n j : Nat) : List T5 := (marks s n).take j ++ ps.drop j
theorem marked_zero (s : Int) (ps : List T5) (n : Nat) : marked s ps n 0 = ps := by simp [marked]
theorem marked_all (s : Int) (ps : List T5) (n : Nat) (h : ps.length = n) : marked s ps n n = marks s n := by
  unfold marked
  rw [List.take_of_length_le (by rw [marks_len]; exact Nat.le_refl _), List.drop_of_length_le (by omega), List.append_nil]
theorem marked_step (s : Int) (ps : List T5) (n j : Nat) (h : ps.length = n) (hj : j < n) : (((((marked s ps n j).modify j (fun p => (s + 5 * (j : Int), p.2.1, p.2.2.1, p.2.2.2.1, p.2.2.2.2))).modify j (fun p => (p.1, s + 5 * (j : Int) + 1, p.2.2.1, p.2.2.2.1, p.2.2.2.2))).modify j (fun p => (p.1, p.2.1, s + 5 * (j : Int) + 1 + 1, p.2.2.2.1, p.2.2.2.2))).modify j (fun p => (p.1, p.2.1, p.2.2.1, s + 5 * (j : Int) + 1 + 1 + 1, p.2.2.2.2))).modify j (fun p => (p.1, p.2.1, p.2.2.1, p.2.2.2.1, s + 5 * (j : Int) + 1 + 1 + 1 + 1)) = marked s ps n (j + 1) := by
  unfold marked
  have l := marks_len s n
  have g := marks_getD s n j hj
  have l1 : ((marks s n).take j).length = j := by simp; omega
  have l2 : ((marks s n).take (j + 1)).length = j + 1 := by simp; omega
  apply List.ext_getElem?
  intro i
  rw [List.getElem?_modify, List.getElem?_modify, List.getElem?_modify, List.getElem?_modify, List.getElem?_modify]
  by_cases e : j = i
  · subst e
    rw [List.getElem?_append_right (by omega), List.getElem?_append_left (by omega), List.getElem?_take, if_pos (by omega), l1]
    have hg : (marks s n)[j]? = some (s + 5 * (j : Int), s + 5 * (j : Int) + 1, s + 5 * (j : Int) + 2, s + 5 * (j : Int) + 3, s + 5 * (j : Int) + 4) := by
      rw [← g]; simp [List.getD, l, hj]
    rw [hg]
    simp [List.getElem?_drop, h, hj]
    omega
  · by_cases d : i < j
    · rw [List.getElem?_append_left (by omega), List.getElem?_append_left (by omega), List.getElem?_take, List.getElem?_take, if_pos d, if_pos (by omega)]
      simp [e]
    · rw [List.getElem?_append_right (by omega), List.getElem?_append_right (by omega), l1, l2]
      simp only [List.getElem?_drop]
      rw [show j + (i - j) = i by omega, show j + 1 + (i - (j + 1)) = i by omega]
      simp [e]
set_option maxRecDepth 100000 in
set_option maxHeartbeats 1000000 in
theorem markS (w : World) (base g n cap : Nat) (s : Int) (ps : List T5) (h20 : n ≤ 1048576) (s0 : 0 ≤ s) (s1 : s ≤ 100000000) (ho : Own5 87 w base g n cap ps) :
    Calls Tryz.prog 38 #[.slice (some ⟨g, 0, none⟩) n cap, .int .i64 s] w fun e w' => e = .returned (.int .i64 (s + 5 * (n : Int))) ∧ Own5 87 w' base g n cap (marks s n) ∧ w.grownBy w' (some g) := by
  have hl := ho.len
  have ho' : Own5 87 w base g n cap (marked s ps n 0) := by rw [marked_zero]; exact ho
  clear ho
  go_enter Tryz.func38, Tryz.ntmps38
  go_wp2
  go_loopw [1, 5] (fun m i wr => ∃ (k : Nat), k ≤ n ∧ i = .int .i64 k ∧ m = .int .i64 (s + 5 * (k : Int)) ∧ Own5 87 wr base g n cap (marked s ps n k) ∧ w.grownBy wr (some g)) (fun _ i _ => n - (intOf i).toNat)
  case atStart => exact ⟨0, by omega, rfl, by go_num, ho', World.grownBy.refl _ _⟩
  case round =>
    clear ho'
    obtain ⟨k, hk, rfl, rfl, hown, hg⟩ := hrel
    by_cases t : k < n
    · obtain ⟨o0, q0⟩ := hown.set0 k (s + 5 * (k : Int))
      obtain ⟨o1, q1⟩ := o0.set1 k (s + 5 * (k : Int) + 1)
      obtain ⟨o2, q2⟩ := o1.set2 k (s + 5 * (k : Int) + 1 + 1)
      obtain ⟨o3, q3⟩ := o2.set3 k (s + 5 * (k : Int) + 1 + 1 + 1)
      obtain ⟨o4, q4⟩ := o3.set4 k (s + 5 * (k : Int) + 1 + 1 + 1 + 1)
      obtain ⟨hd0, hd1, hd2, hd3, hd4⟩ := hown.at k (by rw [Own5.len hown]; exact t)
      have hf0 := hown.free (k * 5)
      have hf1 := hown.free (k * 5 + 1)
      have hf2 := hown.free (k * 5 + 2)
      have hf3 := hown.free (k * 5 + 3)
      have hf4 := hown.free (k * 5 + 4)
      rw [marked_step s ps n k hl t] at o4
      have HO := hide o4
      have HG := hide (grown_trans (grown_trans (grown_trans (grown_trans (grown_trans hg q0) q1) q2) q3) q4)
      clear hown hg o0 q0 o1 q1 o2 q2 o3 q3 o4 q4
      generalize (el5 (marked s ps n k) k).1 = z0 at hd0
      generalize (el5 (marked s ps n k) k).2.1 = z1 at hd1
      generalize (el5 (marked s ps n k) k).2.2.1 = z2 at hd2
      generalize (el5 (marked s ps n k) k).2.2.2.1 = z3 at hd3
      generalize (el5 (marked s ps n k) k).2.2.2.2 = z4 at hd4
      have r1 : IntKind.i64.wrap (s + 5 * (k : Int) + 1) = s + 5 * (k : Int) + 1 := by rw [IntKind.wrap_i64]; omega
      have r2 : IntKind.i64.wrap (s + 5 * (k : Int) + 1 + 1) = s + 5 * (k : Int) + 1 + 1 := by rw [IntKind.wrap_i64]; omega
      have r3 : IntKind.i64.wrap (s + 5 * (k : Int) + 1 + 1 + 1) = s + 5 * (k : Int) + 1 + 1 + 1 := by rw [IntKind.wrap_i64]; omega
      have r4 : IntKind.i64.wrap (s + 5 * (k : Int) + 1 + 1 + 1 + 1) = s + 5 * (k : Int) + 1 + 1 + 1 + 1 := by rw [IntKind.wrap_i64]; omega
      have r5 : IntKind.i64.wrap (s + 5 * (k : Int) + 1 + 1 + 1 + 1 + 1) = s + 5 * (k : Int) + 1 + 1 + 1 + 1 + 1 := by rw [IntKind.wrap_i64]; omega
      go_wp2
      go_roundw
      case rel => exact ⟨k + 1, by omega, by go_num, by go_num, unhide HO, unhide HG⟩
      case measure => simp [intOf]; omega
    · obtain rfl : k = n := by omega
      rw [marked_all s ps k hl] at hown
      have HO := hide hown
      have HG := hide hg
      clear hown hg
      go_wp2
      go_ret
      exact ⟨rfl, unhide HO, unhide HG⟩
theorem sz_yes (a : Option Addr) (len cap : Nat) (l : Int) (w : World) (h : (len : Int) ≤ l) (hl : l ≤ 1048576) :
    Calls Tryz.prog 19 #[.slice a len cap, .int .i64 l] w fun e w' => e = .returned (.int .i64 (l - (len : Int))) ∧ w' = w := by
  have h1 : (0 : Int) ≤ l - (len : Int) := by omega
  have h2 : wrap64 (l - (len : Int)) = l - (len : Int) := by rw [wrap64]; omega
  go_enter Tryz.func19, Tryz.ntmps19
  go_wp2
  go_ret
  exact ⟨rfl, rfl⟩
theorem sz_no (a : Option Addr) (len cap : Nat) (l : Int) (w : World) (h : ¬ (len : Int) ≤ l) (hl : l ≤ 1048576) (h0 : 0 ≤ l) (hm : len ≤ 9223372036854775807) :
    Calls Tryz.prog 19 #[.slice a len cap, .int .i64 l] w fun e w' => e = .returned (.int .i64 (-1)) ∧ w' = w := by
  have h1 : l - (len : Int) < 0 := by omega
  have h2 : wrap64 (l - (len : Int)) = l - (len : Int) := by rw [wrap64]; omega
  go_enter Tryz.func19, Tryz.ntmps19
  go_wp2
  go_ret
  exact ⟨rfl, rfl⟩
end Go.Proofs.YtefcigaalgfmiaaGreat.LotHelp
namespace Go.Proofs.YtefcigaalgfmiaaGreat.TradeHelp
open Go.ChangeShapes Go.WideShapes Go.ChangeAt Go.RowKit Tup8
theorem info2 : (Tryz.prog.info? 79).map (fun i => (i.zero, i.size, i.bytes)) = some (some (.agg #[.int .i64 0, .int .i64 0, .int .i64 0, .int .i64 0, .int .i64 0, .int .i64 0, .int .i64 0, .int .i64 0]), 8, 64) := by kernel_rfl
set_option maxRecDepth 100000 in
theorem to1 (w : World) (x0 x1 x2 x3 x4 x5 x6 x7 : Int) : Calls Tryz.prog 55 #[.agg #[.int .i64 x0, .int .i64 x1, .int .i64 x2, .int .i64 x3, .int .i64 x4, .int .i64 x5, .int .i64 x6, .int .i64 x7]] w fun e w' => e = .returned (.agg #[.int .i64 x0, .int .i64 x1, .int .i64 x2, .int .i64 x3, .int .i64 x4, .int .i64 x5, .int .i64 x6, .int .i64 x7]) ∧ Below w.heap.size w w' := by
  go_enter Tryz.func55, Tryz.ntmps55
  go_wp2
  refine bodyPost_ret (v := .agg #[.int .i64 x0, .int .i64 x1, .int .i64 x2, .int .i64 x3, .int .i64 x4, .int .i64 x5, .int .i64 x6, .int .i64 x7]) (by simp [results, Tryz.results55, go_sem]) rfl ⟨rfl, ?_⟩
  exact (((Below.refl _ _).alloc (Nat.le_refl _) _).alloc (by simp) _).alloc (by simp; omega) _
theorem made (n : Nat) : (madeCells (Value.agg #[.int .i64 0, .int .i64 0, .int .i64 0, .int .i64 0, .int .i64 0, .int .i64 0, .int .i64 0, .int .i64 0]).cells (n * 8)).toList = flat8 (List.replicate n (0, 0, 0, 0, 0, 0, 0, 0)) := by
  apply List.ext_getElem?
  intro j
  by_cases hj : j < n * 8
  · have hs : (Value.agg #[Value.int .i64 0, Value.int .i64 0, Value.int .i64 0, Value.int .i64 0, Value.int .i64 0, Value.int .i64 0, Value.int .i64 0, Value.int .i64 0]).cells = #[Value.int .i64 0, Value.int .i64 0, Value.int .i64 0, Value.int .i64 0, Value.int .i64 0, Value.int .i64 0, Value.int .i64 0, Value.int .i64 0] := rfl
    rw [hs]
    obtain ⟨f0, f1, f2, f3, f4, f5, f6, f7⟩ := flat8_get (List.replicate n (0, 0, 0, 0, 0, 0, 0, 0)) (j / 8) (by simp; omega)
    have hg : (List.replicate n (((0 : Int), (0 : Int), (0 : Int), (0 : Int), (0 : Int), (0 : Int), (0 : Int), (0 : Int)) : T8)).getD (j / 8) (0, 0, 0, 0, 0, 0, 0, 0) = (0, 0, 0, 0, 0, 0, 0, 0) := by simp [List.getD, show j / 8 < n by omega]
    unfold el8 at f0 f1 f2 f3 f4 f5 f6 f7
    rw [hg] at f0 f1 f2 f3 f4 f5 f6 f7
    rcases (show j % 8 = 0 ∨ j % 8 = 1 ∨ j % 8 = 2 ∨ j % 8 = 3 ∨ j % 8 = 4 ∨ j % 8 = 5 ∨ j % 8 = 6 ∨ j % 8 = 7 by omega) with e | e | e | e | e | e | e | e
    · rw [show j / 8 * 8 = j by omega] at f0
      rw [f0]
      simp [madeCells, hj, e]
    · rw [show j / 8 * 8 + 1 = j by omega] at f1
      rw [f1]
      simp [madeCells, hj, e]
    · rw [show j / 8 * 8 + 2 = j by omega] at f2
      rw [f2]
      simp [madeCells, hj, e]
    · rw [show j / 8 * 8 + 3 = j by omega] at f3
      rw [f3]
      simp [madeCells, hj, e]
    · rw [show j / 8 * 8 + 4 = j by omega] at f4
      rw [f4]
      simp [madeCells, hj, e]
    · rw [show j / 8 * 8 + 5 = j by omega] at f5
      rw [f5]
      simp [madeCells, hj, e]
    · rw [show j / 8 * 8 + 6 = j by omega] at f6
      rw [f6]
      simp [madeCells, hj, e]
    · rw [show j / 8 * 8 + 7 = j by omega] at f7
      rw [f7]
      simp [madeCells, hj, e]
  · rw [List.getElem?_eq_none (by simp [madeCells]; omega), List.getElem?_eq_none (by rw [flat8_len]; simp; omega)]
/-- The elements so far, and zeros behind. -/
def part (ps : List T8) (n k : Nat) : List T8 := ps.take k ++ List.replicate (n - k) (0, 0, 0, 0, 0, 0, 0, 0)
theorem part_zero (ps : List T8) (n : Nat) : part ps n 0 = List.replicate n (0, 0, 0, 0, 0, 0, 0, 0) := by simp [part]
theorem part_all (ps : List T8) (n : Nat) (h : ps.length = n) : part ps n n = ps := by
  unfold part
  rw [← h]; simp
theorem part_step (ps : List T8) (n k : Nat) (h : ps.length = n) (hk : k < n) : ((((((((part ps n k).modify k (fun p => ((el8 ps k).1, p.2.1, p.2.2.1, p.2.2.2.1, p.2.2.2.2.1, p.2.2.2.2.2.1, p.2.2.2.2.2.2.1, p.2.2.2.2.2.2.2))).modify k (fun p => (p.1, (el8 ps k).2.1, p.2.2.1, p.2.2.2.1, p.2.2.2.2.1, p.2.2.2.2.2.1, p.2.2.2.2.2.2.1, p.2.2.2.2.2.2.2))).modify k (fun p => (p.1, p.2.1, (el8 ps k).2.2.1, p.2.2.2.1, p.2.2.2.2.1, p.2.2.2.2.2.1, p.2.2.2.2.2.2.1, p.2.2.2.2.2.2.2))).modify k (fun p => (p.1, p.2.1, p.2.2.1, (el8 ps k).2.2.2.1, p.2.2.2.2.1, p.2.2.2.2.2.1, p.2.2.2.2.2.2.1, p.2.2.2.2.2.2.2))).modify k (fun p => (p.1, p.2.1, p.2.2.1, p.2.2.2.1, (el8 ps k).2.2.2.2.1, p.2.2.2.2.2.1, p.2.2.2.2.2.2.1, p.2.2.2.2.2.2.2))).modify k (fun p => (p.1, p.2.1, p.2.2.1, p.2.2.2.1, p.2.2.2.2.1, (el8 ps k).2.2.2.2.2.1, p.2.2.2.2.2.2.1, p.2.2.2.2.2.2.2))).modify k (fun p => (p.1, p.2.1, p.2.2.1, p.2.2.2.1, p.2.2.2.2.1, p.2.2.2.2.2.1, (el8 ps k).2.2.2.2.2.2.1, p.2.2.2.2.2.2.2))).modify k (fun p => (p.1, p.2.1, p.2.2.1, p.2.2.2.1, p.2.2.2.2.1, p.2.2.2.2.2.1, p.2.2.2.2.2.2.1, (el8 ps k).2.2.2.2.2.2.2)) = part ps n (k + 1) := by
  subst h
  unfold part
  apply List.ext_getElem?
  intro j
  have l1 : (ps.take k).length = k := by simp; omega
  have l2 : (ps.take (k + 1)).length = k + 1 := by simp; omega
  rw [List.getElem?_modify, List.getElem?_modify, List.getElem?_modify, List.getElem?_modify, List.getElem?_modify, List.getElem?_modify, List.getElem?_modify, List.getElem?_modify]
  by_cases e : k = j
  · subst e
    rw [List.getElem?_append_right (by omega), List.getElem?_append_left (by omega), List.getElem?_take, if_pos (by omega), l1]
    simp [List.getD, hk, show 0 < ps.length - k by omega]
  · by_cases l : j < k
    · rw [List.getElem?_append_left (by omega), List.getElem?_append_left (by omega), List.getElem?_take, List.getElem?_take, if_pos l, if_pos (by omega)]
      simp [e]
    · rw [List.getElem?_append_right (by omega), List.getElem?_append_right (by omega), l1, l2]
      simp only [List.getElem?_replicate]
      by_cases m : j < ps.length
      · rw [if_pos (by omega), if_pos (by omega)]; simp [e]
      · rw [if_neg (by omega), if_neg (by omega)]; simp [e]
set_option maxRecDepth 100000 in
set_option maxHeartbeats 1000000 in
theorem toS (w : World) (a : Option Addr) (len cap : Nat) (ps : List T8) (hl : ps.length = len) (h20 : len ≤ 1048576) (hr : Reads8 w a ps) :
    Calls Tryz.prog 28 #[.slice a len cap] w fun e w' => e = .returned (.slice (some ⟨w.heap.size, 0, none⟩) len len) ∧ Own8 79 w' w.heap.size w.heap.size len len ps ∧ Below w.heap.size w w' := by
  obtain ⟨i0, hi, hz0, hz1, hz2⟩ := info_parts info2
  go_enter Tryz.func28, Tryz.ntmps28
  go_wp2_with (at_make; refine wpList_make_full _ rfl _ _ 37 rfl w.heap.size 79 i0 (.agg #[.int .i64 0, .int .i64 0, .int .i64 0, .int .i64 0, .int .i64 0, .int .i64 0, .int .i64 0, .int .i64 0]) 8 Tryz.underlying37 hi hz0 hz1 .i64 .i64 _ _ len rfl rfl rfl rfl (by rw [hz2]; omega) (by unfold maxLen; omega) (Nat.le_refl _) ?_; intro w1 hown hgrow)
  rw [made, ← part_zero ps] at hown
  have hb := grownBy_below hgrow
  have hown : Own8 79 w1 w.heap.size w.heap.size len len (part ps len 0) := hown
  clear hgrow
  go_loopw [4] (fun i wr => ∃ (k : Nat), k ≤ len ∧ i = .int .i64 k ∧ Own8 79 wr w.heap.size w.heap.size len len (part ps len k) ∧ Below w.heap.size w wr) (fun i _ => len - (intOf i).toNat)
  case atStart => exact ⟨0, by omega, rfl, hown, hb⟩
  case round =>
    clear hown hb
    obtain ⟨k, hk, rfl, hown, hb⟩ := hrel
    by_cases t : k < len
    · rcases hr with hz | ⟨b, off, rfl, hlt, hcell⟩
      · omega
      have hc0 := (hb.cell (p := ⟨b, off + k * 8, none⟩) hlt).trans (hcell k (by omega)).1
      have hc1 := (hb.cell (p := ⟨b, off + k * 8 + 1, none⟩) hlt).trans (hcell k (by omega)).2.1
      have hc2 := (hb.cell (p := ⟨b, off + k * 8 + 2, none⟩) hlt).trans (hcell k (by omega)).2.2.1
      have hc3 := (hb.cell (p := ⟨b, off + k * 8 + 3, none⟩) hlt).trans (hcell k (by omega)).2.2.2.1
      have hc4 := (hb.cell (p := ⟨b, off + k * 8 + 4, none⟩) hlt).trans (hcell k (by omega)).2.2.2.2.1
      have hc5 := (hb.cell (p := ⟨b, off + k * 8 + 5, none⟩) hlt).trans (hcell k (by omega)).2.2.2.2.2.1
      have hc6 := (hb.cell (p := ⟨b, off + k * 8 + 6, none⟩) hlt).trans (hcell k (by omega)).2.2.2.2.2.2.1
      have hc7 := (hb.cell (p := ⟨b, off + k * 8 + 7, none⟩) hlt).trans (hcell k (by omega)).2.2.2.2.2.2.2
      clear hcell
      have HO := hide hown
      have HB := hide hb
      clear hown hb
      have PS := hide (part_step ps len k hl t)
      generalize (el8 ps k).1 = x0 at *
      generalize (el8 ps k).2.1 = x1 at *
      generalize (el8 ps k).2.2.1 = x2 at *
      generalize (el8 ps k).2.2.2.1 = x3 at *
      generalize (el8 ps k).2.2.2.2.1 = x4 at *
      generalize (el8 ps k).2.2.2.2.2.1 = x5 at *
      generalize (el8 ps k).2.2.2.2.2.2.1 = x6 at *
      generalize (el8 ps k).2.2.2.2.2.2.2 = x7 at *
      go_wp2_with fail
      refine (to1 _ x0 x1 x2 x3 x4 x5 x6 x7).mono ?_
      rintro e w2 ⟨rfl, b2⟩
      have o2 := (unhide HO).below b2 (unhide HO).lt.2
      have hb2 := (unhide HB).trans (b2.mono (unhide HB).size)
      clear HO HB b2 hc0 hc1 hc2 hc3 hc4 hc5 hc6 hc7
      have hs0 := o2.set0 k x0
      have hs1 := hs0.1.set1 k x1
      have hs2 := hs1.1.set2 k x2
      have hs3 := hs2.1.set3 k x3
      have hs4 := hs3.1.set4 k x4
      have hs5 := hs4.1.set5 k x5
      have hs6 := hs5.1.set6 k x6
      have hs7 := hs6.1.set7 k x7
      have hd := o2.at k (by rw [o2.len]; exact t)
      have hd0 := hd.1
      have hd1 := hd.2.1
      have hd2 := hd.2.2.1
      have hd3 := hd.2.2.2.1
      have hd4 := hd.2.2.2.2.1
      have hd5 := hd.2.2.2.2.2.1
      have hd6 := hd.2.2.2.2.2.2.1
      have hd7 := hd.2.2.2.2.2.2.2
      have hf0 := o2.free (k * 8)
      have hf1 := o2.free (k * 8 + 1)
      have hf2 := o2.free (k * 8 + 2)
      have hf3 := o2.free (k * 8 + 3)
      have hf4 := o2.free (k * 8 + 4)
      have hf5 := o2.free (k * 8 + 5)
      have hf6 := o2.free (k * 8 + 6)
      have hf7 := o2.free (k * 8 + 7)
      have HS := hide hs7.1
      have HB := hide ((((((((hb2.setCell (p := ⟨w.heap.size, k * 8, none⟩) (Nat.le_refl _) (.int .i64 x0)).setCell (p := ⟨w.heap.size, k * 8 + 1, none⟩) (Nat.le_refl _) (.int .i64 x1)).setCell (p := ⟨w.heap.size, k * 8 + 2, none⟩) (Nat.le_refl _) (.int .i64 x2)).setCell (p := ⟨w.heap.size, k * 8 + 3, none⟩) (Nat.le_refl _) (.int .i64 x3)).setCell (p := ⟨w.heap.size, k * 8 + 4, none⟩) (Nat.le_refl _) (.int .i64 x4)).setCell (p := ⟨w.heap.size, k * 8 + 5, none⟩) (Nat.le_refl _) (.int .i64 x5)).setCell (p := ⟨w.heap.size, k * 8 + 6, none⟩) (Nat.le_refl _) (.int .i64 x6)).setCell (p := ⟨w.heap.size, k * 8 + 7, none⟩) (Nat.le_refl _) (.int .i64 x7))
      clear hs0 hs1 hs2 hs3 hs4 hs5 hs6 hs7 hd o2 hb2
      go_wp2
      go_roundw
      case rel =>
        have o := unhide HS
        rw [unhide PS] at o
        exact ⟨k + 1, by omega, by go_num, o, unhide HB⟩
      case measure => simp [intOf]; omega
    · obtain rfl : k = len := by omega
      rw [part_all ps k hl] at hown
      have HO := hide hown
      have HB := hide hb
      clear hown hb hr
      go_wp2
      go_ret
      exact ⟨rfl, unhide HO, unhide HB⟩
set_option maxRecDepth 100000 in
theorem eq1 (w : World) (x0 x1 x2 x3 x4 x5 x6 x7 : Int) : Calls Tryz.prog 61 #[.agg #[.int .i64 x0, .int .i64 x1, .int .i64 x2, .int .i64 x3, .int .i64 x4, .int .i64 x5, .int .i64 x6, .int .i64 x7], .agg #[.int .i64 x0, .int .i64 x1, .int .i64 x2, .int .i64 x3, .int .i64 x4, .int .i64 x5, .int .i64 x6, .int .i64 x7]] w fun e w' => e = .returned (.bool true) ∧ w' = (w.alloc (.cells #[.int .i64 x0, .int .i64 x1, .int .i64 x2, .int .i64 x3, .int .i64 x4, .int .i64 x5, .int .i64 x6, .int .i64 x7] 79)).alloc (.cells #[.int .i64 x0, .int .i64 x1, .int .i64 x2, .int .i64 x3, .int .i64 x4, .int .i64 x5, .int .i64 x6, .int .i64 x7] 79) := by
  go_enter Tryz.func61, Tryz.ntmps61
  go_wp2
  go_ret
  exact ⟨rfl, rfl⟩
theorem two_more (w : World) (o p : Obj) : Below w.heap.size w ((w.alloc o).alloc p).drew := (((Below.refl _ _).alloc (Nat.le_refl _) _).alloc (by simp) _).drew
set_option maxRecDepth 100000 in
set_option maxHeartbeats 1000000 in
theorem eqS (w : World) (g1 g2 n c1 c2 : Nat) (ps : List T8) (hl : ps.length = n) (h20 : n ≤ 1048576) (l1 : g1 < w.heap.size) (l2 : g2 < w.heap.size) (h1 : At8 w g1 ps) (h2 : At8 w g2 ps) :
    Calls Tryz.prog 34 #[.slice (some ⟨g1, 0, none⟩) n c1, .slice (some ⟨g2, 0, none⟩) n c2] w fun e w' => e = .returned (.bool true) ∧ Below w.heap.size w w' := by
  go_enter Tryz.func34, Tryz.ntmps34
  go_wp2
  go_loopw [5] (fun i wr => ∃ (k : Nat), k ≤ n ∧ i = .int .i64 k ∧ At8 wr g1 ps ∧ At8 wr g2 ps ∧ Below w.heap.size w wr) (fun i _ => n - (intOf i).toNat)
  case atStart => exact ⟨0, by omega, rfl, h1, h2, Below.refl _ _⟩
  case round =>
    clear h1 h2
    obtain ⟨k, hk, rfl, h1, h2, hb⟩ := hrel
    by_cases t : k < n
    · obtain ⟨e0, e1, e2, e3, e4, e5, e6, e7⟩ := h1 k (by omega)
      obtain ⟨f0, f1, f2, f3, f4, f5, f6, f7⟩ := h2 k (by omega)
      have s := hb.size
      have H1 := hide h1
      have H2 := hide h2
      have HB := hide hb
      clear h1 h2 hb
      generalize (el8 ps k).1 = x0 at *
      generalize (el8 ps k).2.1 = x1 at *
      generalize (el8 ps k).2.2.1 = x2 at *
      generalize (el8 ps k).2.2.2.1 = x3 at *
      generalize (el8 ps k).2.2.2.2.1 = x4 at *
      generalize (el8 ps k).2.2.2.2.2.1 = x5 at *
      generalize (el8 ps k).2.2.2.2.2.2.1 = x6 at *
      generalize (el8 ps k).2.2.2.2.2.2.2 = x7 at *
      go_wp2_with fail
      go_region_held3 (fun w' => w'.cell? ⟨g1, k * 8, none⟩ = some (.int .i64 x0) ∧ w'.cell? ⟨g2, k * 8, none⟩ = some (.int .i64 x0) ∧ w'.cell? ⟨g1, k * 8 + 1, none⟩ = some (.int .i64 x1) ∧ w'.cell? ⟨g2, k * 8 + 1, none⟩ = some (.int .i64 x1) ∧ w'.cell? ⟨g1, k * 8 + 2, none⟩ = some (.int .i64 x2) ∧ w'.cell? ⟨g2, k * 8 + 2, none⟩ = some (.int .i64 x2) ∧ w'.cell? ⟨g1, k * 8 + 3, none⟩ = some (.int .i64 x3) ∧ w'.cell? ⟨g2, k * 8 + 3, none⟩ = some (.int .i64 x3) ∧ w'.cell? ⟨g1, k * 8 + 4, none⟩ = some (.int .i64 x4) ∧ w'.cell? ⟨g2, k * 8 + 4, none⟩ = some (.int .i64 x4) ∧ w'.cell? ⟨g1, k * 8 + 5, none⟩ = some (.int .i64 x5) ∧ w'.cell? ⟨g2, k * 8 + 5, none⟩ = some (.int .i64 x5) ∧ w'.cell? ⟨g1, k * 8 + 6, none⟩ = some (.int .i64 x6) ∧ w'.cell? ⟨g2, k * 8 + 6, none⟩ = some (.int .i64 x6) ∧ w'.cell? ⟨g1, k * 8 + 7, none⟩ = some (.int .i64 x7) ∧ w'.cell? ⟨g2, k * 8 + 7, none⟩ = some (.int .i64 x7)) (go_keep)
        (first | (go_at_call 61; refine (eq1 _ _ _ _ _ _ _ _ _).mono ?_; rintro e w2 ⟨rfl, rfl⟩))
      all_goals (go_wp2; go_roundw)
      all_goals first
        | (have b2 := two_more wr (.cells #[.int .i64 x0, .int .i64 x1, .int .i64 x2, .int .i64 x3, .int .i64 x4, .int .i64 x5, .int .i64 x6, .int .i64 x7] 79) (.cells #[.int .i64 x0, .int .i64 x1, .int .i64 x2, .int .i64 x3, .int .i64 x4, .int .i64 x5, .int .i64 x6, .int .i64 x7] 79)
           exact ⟨k + 1, by omega, by go_num, (unhide H1).below b2 (by omega), (unhide H2).below b2 (by omega), next (unhide HB) b2⟩)
        | (simp [intOf]; omega)
    · have HB := hide hb
      clear h1 h2 hb
      go_wp2
      go_ret
      exact ⟨rfl, unhide HB⟩
/-- The marks: numbers from s on, 8 an element. -/
def marks (s : Int) (n : Nat) : List T8 := (List.range n).map fun (i : Nat) => (s + 8 * (i : Int), s + 8 * (i : Int) + 1, s + 8 * (i : Int) + 2, s + 8 * (i : Int) + 3, s + 8 * (i : Int) + 4, s + 8 * (i : Int) + 5, s + 8 * (i : Int) + 6, s + 8 * (i : Int) + 7)
theorem marks_len (s : Int) (n : Nat) : (marks s n).length = n := by simp [marks]
theorem marks_getD (s : Int) (n i : Nat) (h : i < n) : el8 (marks s n) i = (s + 8 * (i : Int), s + 8 * (i : Int) + 1, s + 8 * (i : Int) + 2, s + 8 * (i : Int) + 3, s + 8 * (i : Int) + 4, s + 8 * (i : Int) + 5, s + 8 * (i : Int) + 6, s + 8 * (i : Int) + 7) := by simp [marks, List.getD, h]
/-- The marks so far, and what stood behind. -/
def marked (s : Int) (ps : List T8) (n j : Nat) : List T8 := (marks s n).take j ++ ps.drop j
theorem marked_zero (s : Int) (ps : List T8) (n : Nat) : marked s ps n 0 = ps := by simp [marked]
theorem marked_all (s : Int) (ps : List T8) (n : Nat) (h : ps.length = n) : marked s ps n n = marks s n := by
  unfold marked
  rw [List.take_of_length_le (by rw [marks_len]; exact Nat.le_refl _), List.drop_of_length_le (by omega), List.append_nil]
theorem marked_step (s : Int) (ps : List T8) (n j : Nat) (h : ps.length = n) (hj : j < n) : ((((((((marked s ps n j).modify j (fun p => (s + 8 * (j : Int), p.2.1, p.2.2.1, p.2.2.2.1, p.2.2.2.2.1, p.2.2.2.2.2.1, p.2.2.2.2.2.2.1, p.2.2.2.2.2.2.2))).modify j (fun p => (p.1, s + 8 * (j : Int) + 1, p.2.2.1, p.2.2.2.1, p.2.2.2.2.1, p.2.2.2.2.2.1, p.2.2.2.2.2.2.1, p.2.2.2.2.2.2.2))).modify j (fun p => (p.1, p.2.1, s + 8 * (j : Int) + 1 + 1, p.2.2.2.1, p.2.2.2.2.1, p.2.2.2.2.2.1, p.2.2.2.2.2.2.1, p.2.2.2.2.2.2.2))).modify j (fun p => (p.1, p.2.1, p.2.2.1, s + 8 * (j : Int) + 1 + 1 + 1, p.2.2.2.2.1, p.2.2.2.2.2.1, p.2.2.2.2.2.2.1, p.2.2.2.2.2.2.2))).modify j (fun p => (p.1, p.2.1, p.2.2.1, p.2.2.2.1, s + 8 * (j : Int) + 1 + 1 + 1 + 1, p.2.2.2.2.2.1, p.2.2.2.2.2.2.1, p.2.2.2.2.2.2.2))).modify j (fun p => (p.1, p.2.1, p.2.2.1, p.2.2.2.1, p.2.2.2.2.1, s + 8 * (j : Int) + 1 + 1 + 1 + 1 + 1, p.2.2.2.2.2.2.1, p.2.2.2.2.2.2.2))).modify j (fun p => (p.1, p.2.1, p.2.2.1, p.2.2.2.1, p.2.2.2.2.1, p.2.2.2.2.2.1, s + 8 * (j : Int) + 1 + 1 + 1 + 1 + 1 + 1, p.2.2.2.2.2.2.2))).modify j (fun p => (p.1, p.2.1, p.2.2.1, p.2.2.2.1, p.2.2.2.2.1, p.2.2.2.2.2.1, p.2.2.2.2.2.2.1, s + 8 * (j : Int) + 1 + 1 + 1 + 1 + 1 + 1 + 1)) = marked s ps n (j + 1) := by
  unfold marked
  have l := marks_len s n
  have g := marks_getD s n j hj
  have l1 : ((marks s n).take j).length = j := by simp; omega
  have l2 : ((marks s n).take (j + 1)).length = j + 1 := by simp; omega
  apply List.ext_getElem?
  intro i
  rw [List.getElem?_modify, List.getElem?_modify, List.getElem?_modify, List.getElem?_modify, List.getElem?_modify, List.getElem?_modify, List.getElem?_modify, List.getElem?_modify]
  by_cases e : j = i
  · subst e
    rw [List.getElem?_append_right (by omega), List.getElem?_append_left (by omega), List.getElem?_take, if_pos (by omega), l1]
    have hg : (marks s n)[j]? = some (s + 8 * (j : Int), s + 8 * (j : Int) + 1, s + 8 * (j : Int) + 2, s + 8 * (j : Int) + 3, s + 8 * (j : Int) + 4, s + 8 * (j : Int) + 5, s + 8 * (j : Int) + 6, s + 8 * (j : Int) + 7) := by
      rw [← g]; simp [List.getD, l, hj]
    rw [hg]
    simp [List.getElem?_drop, h, hj]
    omega
  · by_cases d : i < j
    · rw [List.getElem?_append_left (by omega), List.getElem?_append_left (by omega), List.getElem?_take, List.getElem?_take, if_pos d, if_pos (by omega)]
      simp [e]
    · rw [List.getElem?_append_right (by omega), List.getElem?_append_right (by omega), l1, l2]
      simp only [List.getElem?_drop]
      rw [show j + (i - j) = i by omega, show j + 1 + (i - (j + 1)) = i by omega]
      simp [e]
set_option maxRecDepth 100000 in
set_option maxHeartbeats 1000000 in
theorem markS (w : World) (base g n cap : Nat) (s : Int) (ps : List T8) (h20 : n ≤ 1048576) (s0 : 0 ≤ s) (s1 : s ≤ 100000000) (ho : Own8 79 w base g n cap ps) :
    Calls Tryz.prog 39 #[.slice (some ⟨g, 0, none⟩) n cap, .int .i64 s] w fun e w' => e = .returned (.int .i64 (s + 8 * (n : Int))) ∧ Own8 79 w' base g n cap (marks s n) ∧ w.grownBy w' (some g) := by
  have hl := ho.len
  have ho' : Own8 79 w base g n cap (marked s ps n 0) := by rw [marked_zero]; exact ho
  clear ho
  go_enter Tryz.func39, Tryz.ntmps39
  go_wp2
  go_loopw [1, 5] (fun m i wr => ∃ (k : Nat), k ≤ n ∧ i = .int .i64 k ∧ m = .int .i64 (s + 8 * (k : Int)) ∧ Own8 79 wr base g n cap (marked s ps n k) ∧ w.grownBy wr (some g)) (fun _ i _ => n - (intOf i).toNat)
  case atStart => exact ⟨0, by omega, rfl, by go_num, ho', World.grownBy.refl _ _⟩
  case round =>
    clear ho'
    obtain ⟨k, hk, rfl, rfl, hown, hg⟩ := hrel
    by_cases t : k < n
    · obtain ⟨o0, q0⟩ := hown.set0 k (s + 8 * (k : Int))
      obtain ⟨o1, q1⟩ := o0.set1 k (s + 8 * (k : Int) + 1)
      obtain ⟨o2, q2⟩ := o1.set2 k (s + 8 * (k : Int) + 1 + 1)
      obtain ⟨o3, q3⟩ := o2.set3 k (s + 8 * (k : Int) + 1 + 1 + 1)
      obtain ⟨o4, q4⟩ := o3.set4 k (s + 8 * (k : Int) + 1 + 1 + 1 + 1)
      obtain ⟨o5, q5⟩ := o4.set5 k (s + 8 * (k : Int) + 1 + 1 + 1 + 1 + 1)
      obtain ⟨o6, q6⟩ := o5.set6 k (s + 8 * (k : Int) + 1 + 1 + 1 + 1 + 1 + 1)
      obtain ⟨o7, q7⟩ := o6.set7 k (s + 8 * (k : Int) + 1 + 1 + 1 + 1 + 1 + 1 + 1)
      obtain ⟨hd0, hd1, hd2, hd3, hd4, hd5, hd6, hd7⟩ := hown.at k (by rw [Own8.len hown]; exact t)
      have hf0 := hown.free (k * 8)
      have hf1 := hown.free (k * 8 + 1)
      have hf2 := hown.free (k * 8 + 2)
      have hf3 := hown.free (k * 8 + 3)
      have hf4 := hown.free (k * 8 + 4)
      have hf5 := hown.free (k * 8 + 5)
      have hf6 := hown.free (k * 8 + 6)
      have hf7 := hown.free (k * 8 + 7)
      rw [marked_step s ps n k hl t] at o7
      have HO := hide o7
      have HG := hide (grown_trans (grown_trans (grown_trans (grown_trans (grown_trans (grown_trans (grown_trans (grown_trans hg q0) q1) q2) q3) q4) q5) q6) q7)
      clear hown hg o0 q0 o1 q1 o2 q2 o3 q3 o4 q4 o5 q5 o6 q6 o7 q7
      generalize (el8 (marked s ps n k) k).1 = z0 at hd0
      generalize (el8 (marked s ps n k) k).2.1 = z1 at hd1
      generalize (el8 (marked s ps n k) k).2.2.1 = z2 at hd2
      generalize (el8 (marked s ps n k) k).2.2.2.1 = z3 at hd3
      generalize (el8 (marked s ps n k) k).2.2.2.2.1 = z4 at hd4
      generalize (el8 (marked s ps n k) k).2.2.2.2.2.1 = z5 at hd5
      generalize (el8 (marked s ps n k) k).2.2.2.2.2.2.1 = z6 at hd6
      generalize (el8 (marked s ps n k) k).2.2.2.2.2.2.2 = z7 at hd7
      have r1 : IntKind.i64.wrap (s + 8 * (k : Int) + 1) = s + 8 * (k : Int) + 1 := by rw [IntKind.wrap_i64]; omega
      have r2 : IntKind.i64.wrap (s + 8 * (k : Int) + 1 + 1) = s + 8 * (k : Int) + 1 + 1 := by rw [IntKind.wrap_i64]; omega
      have r3 : IntKind.i64.wrap (s + 8 * (k : Int) + 1 + 1 + 1) = s + 8 * (k : Int) + 1 + 1 + 1 := by rw [IntKind.wrap_i64]; omega
      have r4 : IntKind.i64.wrap (s + 8 * (k : Int) + 1 + 1 + 1 + 1) = s + 8 * (k : Int) + 1 + 1 + 1 + 1 := by rw [IntKind.wrap_i64]; omega
      have r5 : IntKind.i64.wrap (s + 8 * (k : Int) + 1 + 1 + 1 + 1 + 1) = s + 8 * (k : Int) + 1 + 1 + 1 + 1 + 1 := by rw [IntKind.wrap_i64]; omega
      have r6 : IntKind.i64.wrap (s + 8 * (k : Int) + 1 + 1 + 1 + 1 + 1 + 1) = s + 8 * (k : Int) + 1 + 1 + 1 + 1 + 1 + 1 := by rw [IntKind.wrap_i64]; omega
      have r7 : IntKind.i64.wrap (s + 8 * (k : Int) + 1 + 1 + 1 + 1 + 1 + 1 + 1) = s + 8 * (k : Int) + 1 + 1 + 1 + 1 + 1 + 1 + 1 := by rw [IntKind.wrap_i64]; omega
      have r8 : IntKind.i64.wrap (s + 8 * (k : Int) + 1 + 1 + 1 + 1 + 1 + 1 + 1 + 1) = s + 8 * (k : Int) + 1 + 1 + 1 + 1 + 1 + 1 + 1 + 1 := by rw [IntKind.wrap_i64]; omega
      go_wp2
      go_roundw
      case rel => exact ⟨k + 1, by omega, by go_num, by go_num, unhide HO, unhide HG⟩
      case measure => simp [intOf]; omega
    · obtain rfl : k = n := by omega
      rw [marked_all s ps k hl] at hown
      have HO := hide hown
      have HG := hide hg
      clear hown hg
      go_wp2
      go_ret
      exact ⟨rfl, unhide HO, unhide HG⟩
theorem sz_yes (a : Option Addr) (len cap : Nat) (l : Int) (w : World) (h : (len : Int) ≤ l) (hl : l ≤ 1048576) :
    Calls Tryz.prog 20 #[.slice a len cap, .int .i64 l] w fun e w' => e = .returned (.int .i64 (l - (len : Int))) ∧ w' = w := by
  have h1 : (0 : Int) ≤ l - (len : Int) := by omega
  have h2 : wrap64 (l - (len : Int)) = l - (len : Int) := by rw [wrap64]; omega
  go_enter Tryz.func20, Tryz.ntmps20
  go_wp2
  go_ret
  exact ⟨rfl, rfl⟩
theorem sz_no (a : Option Addr) (len cap : Nat) (l : Int) (w : World) (h : ¬ (len : Int) ≤ l) (hl : l ≤ 1048576) (h0 : 0 ≤ l) (hm : len ≤ 9223372036854775807) :
    Calls Tryz.prog 20 #[.slice a len cap, .int .i64 l] w fun e w' => e = .returned (.int .i64 (-1)) ∧ w' = w := by
  have h1 : l - (len : Int) < 0 := by omega
  have h2 : wrap64 (l - (len : Int)) = l - (len : Int) := by rw [wrap64]; omega
  go_enter Tryz.func20, Tryz.ntmps20
  go_wp2
  go_ret
  exact ⟨rfl, rfl⟩
end Go.Proofs.YtefcigaalgfmiaaGreat.TradeHelp
namespace Go.Proofs.YtefcigaalgfmiaaGreat.BHelp
open Go.ChangeShapes Go.WideShapes Go.ChangeAt Go.RowKit BMem Bks ILists
open IBalsFit (St one_more)
/-- Books that came in. -/
structure Ix where
  aa : Option Addr
  ca : Nat
  ai : Option Addr
  ci : Nat
  ab : Option Addr
  cb : Nat
  al : Option Addr
  cl : Nat
  ats : Option Addr
  ct : Nat
  b : Bk
/-- What is read of them. -/
structure RdI (w : World) (y : Ix) : Prop where
  ra : Pairs.Reads w y.aa y.b.ac
  ri : Pairs.Reads w y.ai y.b.ic
  rb : Triples.Reads3 w y.ab y.b.bs
  rl : Tup5.Reads5 w y.al y.b.ls
  rt : Tup8.Reads8 w y.ats y.b.ts
theorem RdI.below {w w' : World} {y : Ix} (h : RdI w y) (k : Below w.heap.size w w') : RdI w' y :=
  ⟨h.ra.below k, h.ri.below k, h.rb.below k, h.rl.below k, h.rt.below k⟩
/-- The cells of books that came in, in a block. -/
structure ClI (w : World) (g : Nat) (y : Ix) : Prop where
  c0 : w.cell? ⟨g, 0, none⟩ = some (.slice y.aa y.b.ac.length y.ca)
  c1 : w.cell? ⟨g, 1, none⟩ = some (.slice y.ai y.b.ic.length y.ci)
  c2 : w.cell? ⟨g, 2, none⟩ = some (.slice y.ab y.b.bs.length y.cb)
  c3 : w.cell? ⟨g, 3, none⟩ = some (.slice y.al y.b.ls.length y.cl)
  c4 : w.cell? ⟨g, 4, none⟩ = some (.slice y.ats y.b.ts.length y.ct)
  c5 : w.cell? ⟨g, 5, none⟩ = some (.int .i64 y.b.lot)
theorem ClI.below {w w' : World} {B g : Nat} {y : Ix} (h : ClI w g y) (k : Below B w w') (hg : g < B) : ClI w' g y :=
  ⟨(k.cell (p := ⟨g, 0, none⟩) hg).trans h.c0, (k.cell (p := ⟨g, 1, none⟩) hg).trans h.c1, (k.cell (p := ⟨g, 2, none⟩) hg).trans h.c2, (k.cell (p := ⟨g, 3, none⟩) hg).trans h.c3, (k.cell (p := ⟨g, 4, none⟩) hg).trans h.c4, (k.cell (p := ⟨g, 5, none⟩) hg).trans h.c5⟩
theorem boxedI (w : World) (y : Ix) (e : TypeId) : ClI (w.alloc (.cells #[.slice y.aa y.b.ac.length y.ca, .slice y.ai y.b.ic.length y.ci, .slice y.ab y.b.bs.length y.cb, .slice y.al y.b.ls.length y.cl, .slice y.ats y.b.ts.length y.ct, .int .i64 y.b.lot] e)) w.heap.size y := ⟨by simp, by simp, by simp, by simp, by simp, by simp⟩
/-- Lists of different types lie in different blocks. -/
theorem row_apart {w : World} {base base' : Nat} {e e' : TypeId} {size size' : Nat} {g g' n n' cap cap' : Nat} {xs xs' : List Value} (h : w.ownsRow base e size (.slice (some ⟨g, 0, none⟩) n cap) n xs) (k : w.ownsRow base' e' size' (.slice (some ⟨g', 0, none⟩) n' cap') n' xs') (ne : e ≠ e') : g ≠ g' := by
  intro eg
  subst eg
  rcases h.2 with ⟨h1, _⟩ | ⟨a, c, cur, h1, h2, h3, _⟩
  · simp at h1
  · rcases k.2 with ⟨k1, _⟩ | ⟨a', c', cur', k1, k2, k3, _⟩
    · simp at k1
    · obtain ⟨e1, _⟩ : g = a ∧ cap = c := by simpa using h1
      obtain ⟨e2, _⟩ : g = a' ∧ cap' = c' := by simpa using k1
      subst e1
      rw [← e2] at k3
      rw [h3] at k3
      simp at k3
      exact ne k3.2
/-- All lists lie below a block number; from one on. -/
def Up (x : Bx) (N : Nat) : Prop := x.ga < N ∧ x.gi < N ∧ x.gb < N ∧ x.gl < N ∧ x.gt < N
def Lo (x : Bx) (N : Nat) : Prop := N ≤ x.ga ∧ N ≤ x.gi ∧ N ≤ x.gb ∧ N ≤ x.gl ∧ N ≤ x.gt
theorem ow_up {w : World} {base : Nat} {x : Bx} (h : Ow w base x) : Up x w.heap.size := ⟨h.oa.lt.2, h.oi.lt.2, h.ob.lt.2, h.ol.lt.2, h.ot.lt.2⟩
theorem ow_lo {w : World} {base : Nat} {x : Bx} (h : Ow w base x) : Lo x base := ⟨h.oa.lt.1, h.oi.lt.1, h.ob.lt.1, h.ol.lt.1, h.ot.lt.1⟩
/-- Nothing but the lists of x has turned. -/
structure Turn (x : Bx) (w w' : World) : Prop where
  os : w'.os = w.os
  tape : w'.tape = w.tape
  output : w'.output = w.output
  size : w.heap.size ≤ w'.heap.size
  block : ∀ k, k < w.heap.size → k ≠ x.ga → k ≠ x.gi → k ≠ x.gb → k ≠ x.gl → k ≠ x.gt → w'.heap[k]? = w.heap[k]?
theorem Turn.refl (x : Bx) (w : World) : Turn x w w := ⟨rfl, rfl, rfl, Nat.le_refl _, fun _ _ _ _ _ _ _ => rfl⟩
theorem Turn.grown {x : Bx} {w u v : World} {g : Nat} (h : Turn x w u) (k : u.grownBy v (some g)) (hg : g = x.ga ∨ g = x.gi ∨ g = x.gb ∨ g = x.gl ∨ g = x.gt) : Turn x w v :=
  ⟨k.os.trans h.os, k.tape.trans h.tape, k.output.trans h.output, Nat.le_trans h.size k.size, fun j hj a b c d e => (k.block j (Nat.lt_of_lt_of_le hj h.size) (fun q => by injection q with q; omega)).trans (h.block j hj a b c d e)⟩
theorem Turn.alloc {x : Bx} {w u : World} (h : Turn x w u) (o : Obj) : Turn x w (u.alloc o) :=
  ⟨h.os, h.tape, h.output, by have := h.size; simp; omega, fun j hj a b c d e => (Below.heap_alloc u o j (Nat.lt_of_lt_of_le hj h.size)).trans (h.block j hj a b c d e)⟩
theorem Turn.below {x : Bx} {w u : World} {B : Nat} (h : Turn x w u) (hB : B ≤ w.heap.size) (lo : Lo x B) : Below B w u :=
  ⟨h.os, h.tape, h.output, h.size, fun k hk => h.block k (by omega) (by have := lo.1; omega) (by have := lo.2.1; omega) (by have := lo.2.2.1; omega) (by have := lo.2.2.2.1; omega) (by have := lo.2.2.2.2; omega)⟩
/-- On the way to a copy: what came in, the copy so far, and the answer's variable. -/
structure TB (w W : World) (y : Ix) (v0 v1 v2 v3 v4 v5 : Value) : Prop where
  b : Below w.heap.size w W
  ci : ClI W w.heap.size y
  o : Box W w.heap.size (w.heap.size + 1 + 1) v0 v1 v2 v3 v4 v5
  r : Box W w.heap.size (w.heap.size + 1) (.slice none 0 0) (.slice none 0 0) (.slice none 0 0) (.slice none 0 0) (.slice none 0 0) (.int .i64 0)
section
variable {w W W' : World} {y : Ix} {v0 v1 v2 v3 v4 v5 : Value}
theorem TB.call (h : TB w W y v0 v1 v2 v3 v4 v5) (k : Below W.heap.size W W') : TB w W' y v0 v1 v2 v3 v4 v5 := by
  have l := h.o.lt
  exact ⟨h.b.trans (k.mono h.b.size), h.ci.below k (by omega), h.o.below k (by omega), h.r.below k (by omega)⟩
theorem TB.set0 (h : TB w W y v0 v1 v2 v3 v4 v5) (u : Value) : TB w (W.setCell ⟨w.heap.size + 1 + 1, 0, none⟩ u) y u v1 v2 v3 v4 v5 := by
  obtain ⟨b, g⟩ := h.o.set0 u
  have n0 : some w.heap.size ≠ some (w.heap.size + 1 + 1) := fun e => by injection e; omega
  exact ⟨h.b.setCell (by simp; omega) u, ⟨g.cell h.ci.c0 n0, g.cell h.ci.c1 n0, g.cell h.ci.c2 n0, g.cell h.ci.c3 n0, g.cell h.ci.c4 n0, g.cell h.ci.c5 n0⟩, b, h.r.kept g (fun e => by injection e; omega)⟩
theorem TB.set1 (h : TB w W y v0 v1 v2 v3 v4 v5) (u : Value) : TB w (W.setCell ⟨w.heap.size + 1 + 1, 1, none⟩ u) y v0 u v2 v3 v4 v5 := by
  obtain ⟨b, g⟩ := h.o.set1 u
  have n0 : some w.heap.size ≠ some (w.heap.size + 1 + 1) := fun e => by injection e; omega
  exact ⟨h.b.setCell (by simp; omega) u, ⟨g.cell h.ci.c0 n0, g.cell h.ci.c1 n0, g.cell h.ci.c2 n0, g.cell h.ci.c3 n0, g.cell h.ci.c4 n0, g.cell h.ci.c5 n0⟩, b, h.r.kept g (fun e => by injection e; omega)⟩
theorem TB.set2 (h : TB w W y v0 v1 v2 v3 v4 v5) (u : Value) : TB w (W.setCell ⟨w.heap.size + 1 + 1, 2, none⟩ u) y v0 v1 u v3 v4 v5 := by
  obtain ⟨b, g⟩ := h.o.set2 u
  have n0 : some w.heap.size ≠ some (w.heap.size + 1 + 1) := fun e => by injection e; omega
  exact ⟨h.b.setCell (by simp; omega) u, ⟨g.cell h.ci.c0 n0, g.cell h.ci.c1 n0, g.cell h.ci.c2 n0, g.cell h.ci.c3 n0, g.cell h.ci.c4 n0, g.cell h.ci.c5 n0⟩, b, h.r.kept g (fun e => by injection e; omega)⟩
theorem TB.set3 (h : TB w W y v0 v1 v2 v3 v4 v5) (u : Value) : TB w (W.setCell ⟨w.heap.size + 1 + 1, 3, none⟩ u) y v0 v1 v2 u v4 v5 := by
  obtain ⟨b, g⟩ := h.o.set3 u
  have n0 : some w.heap.size ≠ some (w.heap.size + 1 + 1) := fun e => by injection e; omega
  exact ⟨h.b.setCell (by simp; omega) u, ⟨g.cell h.ci.c0 n0, g.cell h.ci.c1 n0, g.cell h.ci.c2 n0, g.cell h.ci.c3 n0, g.cell h.ci.c4 n0, g.cell h.ci.c5 n0⟩, b, h.r.kept g (fun e => by injection e; omega)⟩
theorem TB.set4 (h : TB w W y v0 v1 v2 v3 v4 v5) (u : Value) : TB w (W.setCell ⟨w.heap.size + 1 + 1, 4, none⟩ u) y v0 v1 v2 v3 u v5 := by
  obtain ⟨b, g⟩ := h.o.set4 u
  have n0 : some w.heap.size ≠ some (w.heap.size + 1 + 1) := fun e => by injection e; omega
  exact ⟨h.b.setCell (by simp; omega) u, ⟨g.cell h.ci.c0 n0, g.cell h.ci.c1 n0, g.cell h.ci.c2 n0, g.cell h.ci.c3 n0, g.cell h.ci.c4 n0, g.cell h.ci.c5 n0⟩, b, h.r.kept g (fun e => by injection e; omega)⟩
theorem TB.set5 (h : TB w W y v0 v1 v2 v3 v4 v5) (u : Value) : TB w (W.setCell ⟨w.heap.size + 1 + 1, 5, none⟩ u) y v0 v1 v2 v3 v4 u := by
  obtain ⟨b, g⟩ := h.o.set5 u
  have n0 : some w.heap.size ≠ some (w.heap.size + 1 + 1) := fun e => by injection e; omega
  exact ⟨h.b.setCell (by simp; omega) u, ⟨g.cell h.ci.c0 n0, g.cell h.ci.c1 n0, g.cell h.ci.c2 n0, g.cell h.ci.c3 n0, g.cell h.ci.c4 n0, g.cell h.ci.c5 n0⟩, b, h.r.kept g (fun e => by injection e; omega)⟩
end
/-- A list from block number base on, behind a store below it. -/
theorem row_store {w : World} {base : Nat} {e : TypeId} {size : Nat} {g n cap : Nat} {xs : List Value} (h : w.ownsRow base e size (.slice (some ⟨g, 0, none⟩) n cap) n xs) {a : Addr} (ha : a.block < base) (u : Value) : (w.setCell a u).ownsRow base e size (.slice (some ⟨g, 0, none⟩) n cap) n xs := ownsRow_setCell_below h ha u
/-- A copy of a list, its block a letter. -/
theorem toAccount (w : World) (a : Option Addr) (len cap : Nat) (ps : List (Int × Int)) (hl : ps.length = len) (h20 : len ≤ 1048576) (hr : Pairs.Reads w a ps) :
    Calls Tryz.prog 24 #[.slice a len cap] w fun e w' => ∃ g, e = .returned (.slice (some ⟨g, 0, none⟩) len len) ∧ Pairs.Own 82 w' w.heap.size g len len ps ∧ Below w.heap.size w w' :=
  (AccountHelp.toS w a len cap ps hl h20 hr).mono fun e w' ⟨h1, h2, h3⟩ => ⟨_, h1, h2, h3⟩
theorem toInstr (w : World) (a : Option Addr) (len cap : Nat) (ps : List (Int × Int)) (hl : ps.length = len) (h20 : len ≤ 1048576) (hr : Pairs.Reads w a ps) :
    Calls Tryz.prog 25 #[.slice a len cap] w fun e w' => ∃ g, e = .returned (.slice (some ⟨g, 0, none⟩) len len) ∧ Pairs.Own 83 w' w.heap.size g len len ps ∧ Below w.heap.size w w' :=
  (InstrHelp.toS w a len cap ps hl h20 hr).mono fun e w' ⟨h1, h2, h3⟩ => ⟨_, h1, h2, h3⟩
theorem toBal (w : World) (a : Option Addr) (len cap : Nat) (ps : List Bals.T3) (hl : ps.length = len) (h20 : len ≤ 1048576) (hr : Triples.Reads3 w a ps) :
    Calls Tryz.prog 26 #[.slice a len cap] w fun e w' => ∃ g, e = .returned (.slice (some ⟨g, 0, none⟩) len len) ∧ Triples.Own3 85 w' w.heap.size g len len ps ∧ Below w.heap.size w w' :=
  (BalHelp.toS w a len cap ps hl h20 hr).mono fun e w' ⟨h1, h2, h3⟩ => ⟨_, h1, h2, h3⟩
theorem toLot (w : World) (a : Option Addr) (len cap : Nat) (ps : List Tup5.T5) (hl : ps.length = len) (h20 : len ≤ 1048576) (hr : Tup5.Reads5 w a ps) :
    Calls Tryz.prog 27 #[.slice a len cap] w fun e w' => ∃ g, e = .returned (.slice (some ⟨g, 0, none⟩) len len) ∧ Tup5.Own5 87 w' w.heap.size g len len ps ∧ Below w.heap.size w w' :=
  (LotHelp.toS w a len cap ps hl h20 hr).mono fun e w' ⟨h1, h2, h3⟩ => ⟨_, h1, h2, h3⟩
theorem toTrade (w : World) (a : Option Addr) (len cap : Nat) (ps : List Tup8.T8) (hl : ps.length = len) (h20 : len ≤ 1048576) (hr : Tup8.Reads8 w a ps) :
    Calls Tryz.prog 28 #[.slice a len cap] w fun e w' => ∃ g, e = .returned (.slice (some ⟨g, 0, none⟩) len len) ∧ Tup8.Own8 79 w' w.heap.size g len len ps ∧ Below w.heap.size w w' :=
  (TradeHelp.toS w a len cap ps hl h20 hr).mono fun e w' ⟨h1, h2, h3⟩ => ⟨_, h1, h2, h3⟩
set_option maxRecDepth 100000 in
set_option maxHeartbeats 4000000 in
theorem toB (w : World) (y : Ix) (h : RdI w y) (hs : Small y.b) :
    Calls Tryz.prog 7 #[.agg #[.slice y.aa y.b.ac.length y.ca, .slice y.ai y.b.ic.length y.ci, .slice y.ab y.b.bs.length y.cb, .slice y.al y.b.ls.length y.cl, .slice y.ats y.b.ts.length y.ct, .int .i64 y.b.lot]] w fun e w' => ∃ x : Bx, x.b = y.b ∧ e = .returned (.agg #[.slice (some ⟨x.ga, 0, none⟩) x.b.ac.length x.ca, .slice (some ⟨x.gi, 0, none⟩) x.b.ic.length x.ci, .slice (some ⟨x.gb, 0, none⟩) x.b.bs.length x.cb, .slice (some ⟨x.gl, 0, none⟩) x.b.ls.length x.cl, .slice (some ⟨x.gt, 0, none⟩) x.b.ts.length x.ct, .int .i64 x.b.lot]) ∧ Ow w' w.heap.size x ∧ Below w.heap.size w w' := by
  obtain ⟨na, ni, nb, nl, nt⟩ := hs
  have H := hide h
  have T0 := hide (show TB w (((w.alloc (.cells #[.slice y.aa y.b.ac.length y.ca, .slice y.ai y.b.ic.length y.ci, .slice y.ab y.b.bs.length y.cb, .slice y.al y.b.ls.length y.cl, .slice y.ats y.b.ts.length y.ct, .int .i64 y.b.lot] 28)).alloc (.cells #[.slice none 0 0, .slice none 0 0, .slice none 0 0, .slice none 0 0, .slice none 0 0, .int .i64 0] 39)).alloc (.cells #[.slice none 0 0, .slice none 0 0, .slice none 0 0, .slice none 0 0, .slice none 0 0, .int .i64 0] 39)) y (.slice none 0 0) (.slice none 0 0) (.slice none 0 0) (.slice none 0 0) (.slice none 0 0) (.int .i64 0) from by
    have b2 : Below (w.alloc (.cells #[.slice y.aa y.b.ac.length y.ca, .slice y.ai y.b.ic.length y.ci, .slice y.ab y.b.bs.length y.cb, .slice y.al y.b.ls.length y.cl, .slice y.ats y.b.ts.length y.ct, .int .i64 y.b.lot] 28)).heap.size (w.alloc (.cells #[.slice y.aa y.b.ac.length y.ca, .slice y.ai y.b.ic.length y.ci, .slice y.ab y.b.bs.length y.cb, .slice y.al y.b.ls.length y.cl, .slice y.ats y.b.ts.length y.ct, .int .i64 y.b.lot] 28)) (((w.alloc (.cells #[.slice y.aa y.b.ac.length y.ca, .slice y.ai y.b.ic.length y.ci, .slice y.ab y.b.bs.length y.cb, .slice y.al y.b.ls.length y.cl, .slice y.ats y.b.ts.length y.ct, .int .i64 y.b.lot] 28)).alloc (.cells #[.slice none 0 0, .slice none 0 0, .slice none 0 0, .slice none 0 0, .slice none 0 0, .int .i64 0] 39)).alloc (.cells #[.slice none 0 0, .slice none 0 0, .slice none 0 0, .slice none 0 0, .slice none 0 0, .int .i64 0] 39)) := ((Below.refl _ _).alloc (Nat.le_refl _) _).alloc (by simp) _
    exact ⟨((Below.refl w.heap.size w).alloc (Nat.le_refl _) _).trans (b2.mono (by simp)), (boxedI w y 28).below b2 (by simp), Box.made _ _ _ _ _ _ (by simp; omega) (by simp), (Box.made (w := w.alloc (.cells #[.slice y.aa y.b.ac.length y.ca, .slice y.ai y.b.ic.length y.ci, .slice y.ab y.b.bs.length y.cb, .slice y.al y.b.ls.length y.cl, .slice y.ats y.b.ts.length y.ct, .int .i64 y.b.lot] 28)) (g := w.heap.size + 1) _ _ _ _ _ _ (by simp) (by simp)).below (one_more _ _) (by simp)⟩)
  clear h
  go_enter Tryz.func7, Tryz.ntmps7
  go_wp2_with fail
  have U0 := T0
  refine (toAccount _ y.aa _ y.ca y.b.ac rfl na ((unhide H).below (unhide U0).b).ra).mono ?_
  rintro e w1 ⟨g0, rfl, o, bb⟩
  have T1 := hide ((unhide U0).call bb)
  have O0 := hide (show Pairs.Own 82 w1 (w.heap.size + 3) g0 y.b.ac.length y.b.ac.length y.b.ac from o.rebase (by have := (unhide U0).o.lt; have := o.lt; omega))
  clear bb o
  have c0 := (unhide T1).o.c0
  have d0 := (unhide T1).o.free 0
  have e1 := (unhide T1).ci.c1
  go_wp2_with fail
  have U1 := hide ((unhide T1).set0 (.slice (some ⟨g0, 0, none⟩) y.b.ac.length y.b.ac.length))
  replace O0 := hide (row_store (unhide O0) (a := ⟨w.heap.size + 1 + 1, 0, none⟩) (by simp) (.slice (some ⟨g0, 0, none⟩) y.b.ac.length y.b.ac.length))
  refine (toInstr _ y.ai _ y.ci y.b.ic rfl ni ((unhide H).below (unhide U1).b).ri).mono ?_
  rintro e w2 ⟨g1, rfl, o, bb⟩
  have T2 := hide ((unhide U1).call bb)
  have O1 := hide (show Pairs.Own 83 w2 (w.heap.size + 3) g1 y.b.ic.length y.b.ic.length y.b.ic from o.rebase (by have := (unhide U1).o.lt; have := o.lt; omega))
  replace O0 := hide (show Pairs.Own 82 w2 (w.heap.size + 3) g0 y.b.ac.length y.b.ac.length y.b.ac from Pairs.Own.below (unhide O0) bb (by have := World.ownsRow.lt (unhide O0) g0 rfl; omega))
  clear bb o
  have c1 := (unhide T2).o.c1
  have d1 := (unhide T2).o.free 1
  have e2 := (unhide T2).ci.c2
  go_wp2_with fail
  have U2 := hide ((unhide T2).set1 (.slice (some ⟨g1, 0, none⟩) y.b.ic.length y.b.ic.length))
  replace O0 := hide (row_store (unhide O0) (a := ⟨w.heap.size + 1 + 1, 1, none⟩) (by simp) (.slice (some ⟨g1, 0, none⟩) y.b.ic.length y.b.ic.length))
  replace O1 := hide (row_store (unhide O1) (a := ⟨w.heap.size + 1 + 1, 1, none⟩) (by simp) (.slice (some ⟨g1, 0, none⟩) y.b.ic.length y.b.ic.length))
  refine (toBal _ y.ab _ y.cb y.b.bs rfl nb ((unhide H).below (unhide U2).b).rb).mono ?_
  rintro e w3 ⟨g2, rfl, o, bb⟩
  have T3 := hide ((unhide U2).call bb)
  have O2 := hide (show Triples.Own3 85 w3 (w.heap.size + 3) g2 y.b.bs.length y.b.bs.length y.b.bs from o.rebase (by have := (unhide U2).o.lt; have := o.lt; omega))
  replace O0 := hide (show Pairs.Own 82 w3 (w.heap.size + 3) g0 y.b.ac.length y.b.ac.length y.b.ac from Pairs.Own.below (unhide O0) bb (by have := World.ownsRow.lt (unhide O0) g0 rfl; omega))
  replace O1 := hide (show Pairs.Own 83 w3 (w.heap.size + 3) g1 y.b.ic.length y.b.ic.length y.b.ic from Pairs.Own.below (unhide O1) bb (by have := World.ownsRow.lt (unhide O1) g1 rfl; omega))
  clear bb o
  have c2 := (unhide T3).o.c2
  have d2 := (unhide T3).o.free 2
  have e3 := (unhide T3).ci.c3
  go_wp2_with fail
  have U3 := hide ((unhide T3).set2 (.slice (some ⟨g2, 0, none⟩) y.b.bs.length y.b.bs.length))
  replace O0 := hide (row_store (unhide O0) (a := ⟨w.heap.size + 1 + 1, 2, none⟩) (by simp) (.slice (some ⟨g2, 0, none⟩) y.b.bs.length y.b.bs.length))
  replace O1 := hide (row_store (unhide O1) (a := ⟨w.heap.size + 1 + 1, 2, none⟩) (by simp) (.slice (some ⟨g2, 0, none⟩) y.b.bs.length y.b.bs.length))
  replace O2 := hide (row_store (unhide O2) (a := ⟨w.heap.size + 1 + 1, 2, none⟩) (by simp) (.slice (some ⟨g2, 0, none⟩) y.b.bs.length y.b.bs.length))
  refine (toLot _ y.al _ y.cl y.b.ls rfl nl ((unhide H).below (unhide U3).b).rl).mono ?_
  rintro e w4 ⟨g3, rfl, o, bb⟩
  have T4 := hide ((unhide U3).call bb)
  have O3 := hide (show Tup5.Own5 87 w4 (w.heap.size + 3) g3 y.b.ls.length y.b.ls.length y.b.ls from o.rebase (by have := (unhide U3).o.lt; have := o.lt; omega))
  replace O0 := hide (show Pairs.Own 82 w4 (w.heap.size + 3) g0 y.b.ac.length y.b.ac.length y.b.ac from Pairs.Own.below (unhide O0) bb (by have := World.ownsRow.lt (unhide O0) g0 rfl; omega))
  replace O1 := hide (show Pairs.Own 83 w4 (w.heap.size + 3) g1 y.b.ic.length y.b.ic.length y.b.ic from Pairs.Own.below (unhide O1) bb (by have := World.ownsRow.lt (unhide O1) g1 rfl; omega))
  replace O2 := hide (show Triples.Own3 85 w4 (w.heap.size + 3) g2 y.b.bs.length y.b.bs.length y.b.bs from Triples.Own3.below (unhide O2) bb (by have := World.ownsRow.lt (unhide O2) g2 rfl; omega))
  clear bb o
  have c3 := (unhide T4).o.c3
  have d3 := (unhide T4).o.free 3
  have e4 := (unhide T4).ci.c4
  go_wp2_with fail
  have U4 := hide ((unhide T4).set3 (.slice (some ⟨g3, 0, none⟩) y.b.ls.length y.b.ls.length))
  replace O0 := hide (row_store (unhide O0) (a := ⟨w.heap.size + 1 + 1, 3, none⟩) (by simp) (.slice (some ⟨g3, 0, none⟩) y.b.ls.length y.b.ls.length))
  replace O1 := hide (row_store (unhide O1) (a := ⟨w.heap.size + 1 + 1, 3, none⟩) (by simp) (.slice (some ⟨g3, 0, none⟩) y.b.ls.length y.b.ls.length))
  replace O2 := hide (row_store (unhide O2) (a := ⟨w.heap.size + 1 + 1, 3, none⟩) (by simp) (.slice (some ⟨g3, 0, none⟩) y.b.ls.length y.b.ls.length))
  replace O3 := hide (row_store (unhide O3) (a := ⟨w.heap.size + 1 + 1, 3, none⟩) (by simp) (.slice (some ⟨g3, 0, none⟩) y.b.ls.length y.b.ls.length))
  refine (toTrade _ y.ats _ y.ct y.b.ts rfl nt ((unhide H).below (unhide U4).b).rt).mono ?_
  rintro e w5 ⟨g4, rfl, o, bb⟩
  have T5 := hide ((unhide U4).call bb)
  have O4 := hide (show Tup8.Own8 79 w5 (w.heap.size + 3) g4 y.b.ts.length y.b.ts.length y.b.ts from o.rebase (by have := (unhide U4).o.lt; have := o.lt; omega))
  replace O0 := hide (show Pairs.Own 82 w5 (w.heap.size + 3) g0 y.b.ac.length y.b.ac.length y.b.ac from Pairs.Own.below (unhide O0) bb (by have := World.ownsRow.lt (unhide O0) g0 rfl; omega))
  replace O1 := hide (show Pairs.Own 83 w5 (w.heap.size + 3) g1 y.b.ic.length y.b.ic.length y.b.ic from Pairs.Own.below (unhide O1) bb (by have := World.ownsRow.lt (unhide O1) g1 rfl; omega))
  replace O2 := hide (show Triples.Own3 85 w5 (w.heap.size + 3) g2 y.b.bs.length y.b.bs.length y.b.bs from Triples.Own3.below (unhide O2) bb (by have := World.ownsRow.lt (unhide O2) g2 rfl; omega))
  replace O3 := hide (show Tup5.Own5 87 w5 (w.heap.size + 3) g3 y.b.ls.length y.b.ls.length y.b.ls from Tup5.Own5.below (unhide O3) bb (by have := World.ownsRow.lt (unhide O3) g3 rfl; omega))
  clear bb o
  have c4 := (unhide T5).o.c4
  have d4 := (unhide T5).o.free 4
  clear c0 c1 c2 c3 d0 d1 d2 d3 e1 e2 e3 e4
  have e5 := (unhide T5).ci.c5
  have c0 := (unhide T5).o.c0
  have c1 := (unhide T5).o.c1
  have c2 := (unhide T5).o.c2
  have c3 := (unhide T5).o.c3
  have c5 := (unhide T5).o.c5
  have d5 := (unhide T5).o.free 5
  have r0 := (unhide T5).r.c0
  have f0 := (unhide T5).r.free 0
  have r1 := (unhide T5).r.c1
  have f1 := (unhide T5).r.free 1
  have r2 := (unhide T5).r.c2
  have f2 := (unhide T5).r.free 2
  have r3 := (unhide T5).r.c3
  have f3 := (unhide T5).r.free 3
  have r4 := (unhide T5).r.c4
  have f4 := (unhide T5).r.free 4
  have r5 := (unhide T5).r.c5
  have f5 := (unhide T5).r.free 5
  have B5 := hide (unhide T5).b
  go_wp2
  refine bodyPost_ret (v := .agg #[.slice (some ⟨g0, 0, none⟩) y.b.ac.length y.b.ac.length, .slice (some ⟨g1, 0, none⟩) y.b.ic.length y.b.ic.length, .slice (some ⟨g2, 0, none⟩) y.b.bs.length y.b.bs.length, .slice (some ⟨g3, 0, none⟩) y.b.ls.length y.b.ls.length, .slice (some ⟨g4, 0, none⟩) y.b.ts.length y.b.ts.length, .int .i64 y.b.lot]) (by simp [results, Tryz.results7, go_sem, r0, r1, r2, r3, r4, r5]) rfl ⟨⟨g0, y.b.ac.length, g1, y.b.ic.length, g2, y.b.bs.length, g3, y.b.ls.length, g4, y.b.ts.length, y.b⟩, rfl, rfl, ?_, ?_⟩
  · exact Ow.rebase (base := w.heap.size + 3) ⟨(row_store (row_store (row_store (row_store (row_store (row_store (row_store (row_store (unhide O0) (a := ⟨w.heap.size + 1 + 1, 4, none⟩) (by simp) _) (a := ⟨w.heap.size + 1 + 1, 5, none⟩) (by simp) _) (a := ⟨w.heap.size + 1, 0, none⟩) (by simp) _) (a := ⟨w.heap.size + 1, 1, none⟩) (by simp) _) (a := ⟨w.heap.size + 1, 2, none⟩) (by simp) _) (a := ⟨w.heap.size + 1, 3, none⟩) (by simp) _) (a := ⟨w.heap.size + 1, 4, none⟩) (by simp) _) (a := ⟨w.heap.size + 1, 5, none⟩) (by simp) _), (row_store (row_store (row_store (row_store (row_store (row_store (row_store (row_store (unhide O1) (a := ⟨w.heap.size + 1 + 1, 4, none⟩) (by simp) _) (a := ⟨w.heap.size + 1 + 1, 5, none⟩) (by simp) _) (a := ⟨w.heap.size + 1, 0, none⟩) (by simp) _) (a := ⟨w.heap.size + 1, 1, none⟩) (by simp) _) (a := ⟨w.heap.size + 1, 2, none⟩) (by simp) _) (a := ⟨w.heap.size + 1, 3, none⟩) (by simp) _) (a := ⟨w.heap.size + 1, 4, none⟩) (by simp) _) (a := ⟨w.heap.size + 1, 5, none⟩) (by simp) _), (row_store (row_store (row_store (row_store (row_store (row_store (row_store (row_store (unhide O2) (a := ⟨w.heap.size + 1 + 1, 4, none⟩) (by simp) _) (a := ⟨w.heap.size + 1 + 1, 5, none⟩) (by simp) _) (a := ⟨w.heap.size + 1, 0, none⟩) (by simp) _) (a := ⟨w.heap.size + 1, 1, none⟩) (by simp) _) (a := ⟨w.heap.size + 1, 2, none⟩) (by simp) _) (a := ⟨w.heap.size + 1, 3, none⟩) (by simp) _) (a := ⟨w.heap.size + 1, 4, none⟩) (by simp) _) (a := ⟨w.heap.size + 1, 5, none⟩) (by simp) _), (row_store (row_store (row_store (row_store (row_store (row_store (row_store (row_store (unhide O3) (a := ⟨w.heap.size + 1 + 1, 4, none⟩) (by simp) _) (a := ⟨w.heap.size + 1 + 1, 5, none⟩) (by simp) _) (a := ⟨w.heap.size + 1, 0, none⟩) (by simp) _) (a := ⟨w.heap.size + 1, 1, none⟩) (by simp) _) (a := ⟨w.heap.size + 1, 2, none⟩) (by simp) _) (a := ⟨w.heap.size + 1, 3, none⟩) (by simp) _) (a := ⟨w.heap.size + 1, 4, none⟩) (by simp) _) (a := ⟨w.heap.size + 1, 5, none⟩) (by simp) _), (row_store (row_store (row_store (row_store (row_store (row_store (row_store (row_store (unhide O4) (a := ⟨w.heap.size + 1 + 1, 4, none⟩) (by simp) _) (a := ⟨w.heap.size + 1 + 1, 5, none⟩) (by simp) _) (a := ⟨w.heap.size + 1, 0, none⟩) (by simp) _) (a := ⟨w.heap.size + 1, 1, none⟩) (by simp) _) (a := ⟨w.heap.size + 1, 2, none⟩) (by simp) _) (a := ⟨w.heap.size + 1, 3, none⟩) (by simp) _) (a := ⟨w.heap.size + 1, 4, none⟩) (by simp) _) (a := ⟨w.heap.size + 1, 5, none⟩) (by simp) _)⟩ (by omega)
  · exact (((((((((unhide B5).setCell (p := ⟨w.heap.size + 1 + 1, 4, none⟩) (by simp; omega) _).setCell (p := ⟨w.heap.size + 1 + 1, 5, none⟩) (by simp; omega) _).setCell (p := ⟨w.heap.size + 1, 0, none⟩) (by simp) _).setCell (p := ⟨w.heap.size + 1, 1, none⟩) (by simp) _).setCell (p := ⟨w.heap.size + 1, 2, none⟩) (by simp) _).setCell (p := ⟨w.heap.size + 1, 3, none⟩) (by simp) _).setCell (p := ⟨w.heap.size + 1, 4, none⟩) (by simp) _).setCell (p := ⟨w.heap.size + 1, 5, none⟩) (by simp) _)
end Go.Proofs.YtefcigaalgfmiaaGreat.BHelp
namespace Go.Proofs.YtefcigaalgfmiaaGreat.BkEq
open Go.ChangeShapes Go.WideShapes Go.ChangeAt Go.RowKit BMem Bks ILists BHelp
open IBalsFit (St one_more)
/-- Lengths that an int holds. -/
def Fits (b : Bk) : Prop := b.ac.length ≤ 9223372036854775807 ∧ b.ic.length ≤ 9223372036854775807 ∧ b.bs.length ≤ 9223372036854775807 ∧ b.ls.length ≤ 9223372036854775807 ∧ b.ts.length ≤ 9223372036854775807
set_option maxRecDepth 100000 in
set_option maxHeartbeats 2000000 in
theorem szB (w : World) (y : Ix) (hf : Fits y.b) :
    Calls Tryz.prog 5 #[.agg #[.slice y.aa y.b.ac.length y.ca, .slice y.ai y.b.ic.length y.ci, .slice y.ab y.b.bs.length y.cb, .slice y.al y.b.ls.length y.cl, .slice y.ats y.b.ts.length y.ct, .int .i64 y.b.lot], .int .i64 1048576] w fun e w' => ∃ r, e = .returned (.int .i64 r) ∧ (r = -1 ∨ (0 ≤ r ∧ Small y.b)) ∧ Below w.heap.size w w' := by
  obtain ⟨fa, fi, fb, fl, ft⟩ := hf
  have B0 := hide ((Below.refl w.heap.size w).alloc (Nat.le_refl _) (.cells #[.slice y.aa y.b.ac.length y.ca, .slice y.ai y.b.ic.length y.ci, .slice y.ab y.b.bs.length y.cb, .slice y.al y.b.ls.length y.cl, .slice y.ats y.b.ts.length y.ct, .int .i64 y.b.lot] 28))
  go_enter Tryz.func5, Tryz.ntmps5
  go_wp2_with fail
  by_cases q0 : (y.b.ac.length : Int) ≤ 1048576
  rotate_left
  · refine (AccountMark.sz_no _ _ _ 1048576 _ q0 (by omega) (by omega) fa).mono ?_
    rintro e u ⟨rfl, rfl⟩
    go_wp2
    go_ret
    exact ⟨-1, rfl, .inl rfl, unhide B0⟩
  refine (AccountMark.sz_yes _ _ _ 1048576 _ q0 (by omega)).mono ?_
  rintro e u0 ⟨rfl, rfl⟩
  obtain ⟨m0, hm0⟩ : ∃ m : Int, Hid (m = 1048576 - (y.b.ac.length : Int)) := ⟨_, rfl⟩
  rw [← unhide hm0]
  have M0 : 0 ≤ m0 ∧ m0 ≤ 1048576 := by have := unhide hm0; omega
  have Q0 := hide q0
  clear q0
  go_wp2_with fail
  by_cases q1 : (y.b.ic.length : Int) ≤ m0
  rotate_left
  · refine (InstrMark.sz_no _ _ _ m0 _ q1 (by omega) (by omega) fi).mono ?_
    rintro e u ⟨rfl, rfl⟩
    go_wp2
    go_ret
    exact ⟨-1, rfl, .inl rfl, unhide B0⟩
  refine (InstrMark.sz_yes _ _ _ m0 _ q1 (by omega)).mono ?_
  rintro e u1 ⟨rfl, rfl⟩
  obtain ⟨m1, hm1⟩ : ∃ m : Int, Hid (m = m0 - (y.b.ic.length : Int)) := ⟨_, rfl⟩
  rw [← unhide hm1]
  have M1 : 0 ≤ m1 ∧ m1 ≤ 1048576 := by have := unhide hm1; omega
  have Q1 := hide q1
  clear q1
  go_wp2_with fail
  by_cases q2 : (y.b.bs.length : Int) ≤ m1
  rotate_left
  · refine (BalHelp.sz_no _ _ _ m1 _ q2 (by omega) (by omega) fb).mono ?_
    rintro e u ⟨rfl, rfl⟩
    go_wp2
    go_ret
    exact ⟨-1, rfl, .inl rfl, unhide B0⟩
  refine (BalHelp.sz_yes _ _ _ m1 _ q2 (by omega)).mono ?_
  rintro e u2 ⟨rfl, rfl⟩
  obtain ⟨m2, hm2⟩ : ∃ m : Int, Hid (m = m1 - (y.b.bs.length : Int)) := ⟨_, rfl⟩
  rw [← unhide hm2]
  have M2 : 0 ≤ m2 ∧ m2 ≤ 1048576 := by have := unhide hm2; omega
  have Q2 := hide q2
  clear q2
  go_wp2_with fail
  by_cases q3 : (y.b.ls.length : Int) ≤ m2
  rotate_left
  · refine (LotHelp.sz_no _ _ _ m2 _ q3 (by omega) (by omega) fl).mono ?_
    rintro e u ⟨rfl, rfl⟩
    go_wp2
    go_ret
    exact ⟨-1, rfl, .inl rfl, unhide B0⟩
  refine (LotHelp.sz_yes _ _ _ m2 _ q3 (by omega)).mono ?_
  rintro e u3 ⟨rfl, rfl⟩
  obtain ⟨m3, hm3⟩ : ∃ m : Int, Hid (m = m2 - (y.b.ls.length : Int)) := ⟨_, rfl⟩
  rw [← unhide hm3]
  have M3 : 0 ≤ m3 ∧ m3 ≤ 1048576 := by have := unhide hm3; omega
  have Q3 := hide q3
  clear q3
  go_wp2_with fail
  by_cases q4 : (y.b.ts.length : Int) ≤ m3
  rotate_left
  · refine (TradeHelp.sz_no _ _ _ m3 _ q4 (by omega) (by omega) ft).mono ?_
    rintro e u ⟨rfl, rfl⟩
    go_wp2
    go_ret
    exact ⟨-1, rfl, .inl rfl, unhide B0⟩
  refine (TradeHelp.sz_yes _ _ _ m3 _ q4 (by omega)).mono ?_
  rintro e u4 ⟨rfl, rfl⟩
  obtain ⟨m4, hm4⟩ : ∃ m : Int, Hid (m = m3 - (y.b.ts.length : Int)) := ⟨_, rfl⟩
  rw [← unhide hm4]
  have M4 : 0 ≤ m4 ∧ m4 ≤ 1048576 := by have := unhide hm4; omega
  have Q4 := hide q4
  clear q4
  have SM := hide (show Small y.b from by
    have a0 := unhide Q0
    have a1 := unhide Q1
    have a2 := unhide Q2
    have a3 := unhide Q3
    have a4 := unhide Q4
    exact ⟨by omega, by omega, by omega, by omega, by omega⟩)
  go_wp2
  go_ret
  exact ⟨m4, rfl, .inr ⟨M4.1, unhide SM⟩, unhide B0⟩
/-- The two boxes of what is compared. -/
structure Two (w W : World) (x y : Bx) : Prop where
  rx : Rd W x
  ry : Rd W y
  cx : Cl W w.heap.size x
  cy : Cl W (w.heap.size + 1) y
  b : Below w.heap.size w W
  s : w.heap.size + 1 < W.heap.size
theorem Two.step {w W W' : World} {x y : Bx} (h : Two w W x y) (k : Below W.heap.size W W') : Two w W' x y :=
  ⟨h.rx.below k, h.ry.below k, h.cx.below k (by have := h.s; omega), h.cy.below k h.s, h.b.trans (k.mono h.b.size), Nat.lt_of_lt_of_le h.s k.size⟩
theorem Two.start {w : World} {x y : Bx} (hx : Rd w x) (hy : Rd w y) (e : TypeId) : Two w ((w.alloc (.cells #[.slice (some ⟨x.ga, 0, none⟩) x.b.ac.length x.ca, .slice (some ⟨x.gi, 0, none⟩) x.b.ic.length x.ci, .slice (some ⟨x.gb, 0, none⟩) x.b.bs.length x.cb, .slice (some ⟨x.gl, 0, none⟩) x.b.ls.length x.cl, .slice (some ⟨x.gt, 0, none⟩) x.b.ts.length x.ct, .int .i64 x.b.lot] e)).alloc (.cells #[.slice (some ⟨y.ga, 0, none⟩) y.b.ac.length y.ca, .slice (some ⟨y.gi, 0, none⟩) y.b.ic.length y.ci, .slice (some ⟨y.gb, 0, none⟩) y.b.bs.length y.cb, .slice (some ⟨y.gl, 0, none⟩) y.b.ls.length y.cl, .slice (some ⟨y.gt, 0, none⟩) y.b.ts.length y.ct, .int .i64 y.b.lot] e)) x y := by
  have c := boxed (w.alloc (.cells #[.slice (some ⟨x.ga, 0, none⟩) x.b.ac.length x.ca, .slice (some ⟨x.gi, 0, none⟩) x.b.ic.length x.ci, .slice (some ⟨x.gb, 0, none⟩) x.b.bs.length x.cb, .slice (some ⟨x.gl, 0, none⟩) x.b.ls.length x.cl, .slice (some ⟨x.gt, 0, none⟩) x.b.ts.length x.ct, .int .i64 x.b.lot] e)) y e
  have c' : Cl ((w.alloc (.cells #[.slice (some ⟨x.ga, 0, none⟩) x.b.ac.length x.ca, .slice (some ⟨x.gi, 0, none⟩) x.b.ic.length x.ci, .slice (some ⟨x.gb, 0, none⟩) x.b.bs.length x.cb, .slice (some ⟨x.gl, 0, none⟩) x.b.ls.length x.cl, .slice (some ⟨x.gt, 0, none⟩) x.b.ts.length x.ct, .int .i64 x.b.lot] e)).alloc (.cells #[.slice (some ⟨y.ga, 0, none⟩) y.b.ac.length y.ca, .slice (some ⟨y.gi, 0, none⟩) y.b.ic.length y.ci, .slice (some ⟨y.gb, 0, none⟩) y.b.bs.length y.cb, .slice (some ⟨y.gl, 0, none⟩) y.b.ls.length y.cl, .slice (some ⟨y.gt, 0, none⟩) y.b.ts.length y.ct, .int .i64 y.b.lot] e)) (w.heap.size + 1) y := by simpa using c
  exact ⟨(hx.alloc _).alloc _, (hy.alloc _).alloc _, (boxed w x e).below (one_more _ _) (by simp), c', ((Below.refl w.heap.size w).alloc (Nat.le_refl _) _).alloc (by simp) _, by simp⟩
set_option maxRecDepth 100000 in
set_option maxHeartbeats 2000000 in
theorem eqB (w : World) (x y : Bx) (hb : y.b = x.b) (hx : Rd w x) (hy : Rd w y) :
    Calls Tryz.prog 10 #[.agg #[.slice (some ⟨x.ga, 0, none⟩) x.b.ac.length x.ca, .slice (some ⟨x.gi, 0, none⟩) x.b.ic.length x.ci, .slice (some ⟨x.gb, 0, none⟩) x.b.bs.length x.cb, .slice (some ⟨x.gl, 0, none⟩) x.b.ls.length x.cl, .slice (some ⟨x.gt, 0, none⟩) x.b.ts.length x.ct, .int .i64 x.b.lot], .agg #[.slice (some ⟨y.ga, 0, none⟩) y.b.ac.length y.ca, .slice (some ⟨y.gi, 0, none⟩) y.b.ic.length y.ci, .slice (some ⟨y.gb, 0, none⟩) y.b.bs.length y.cb, .slice (some ⟨y.gl, 0, none⟩) y.b.ls.length y.cl, .slice (some ⟨y.gt, 0, none⟩) y.b.ts.length y.ct, .int .i64 y.b.lot]] w fun e w' => e = .returned (.bool true) ∧ Below w.heap.size w w' := by
  obtain ⟨ga, ca, gi, ci, gb, cb, gl, cl, gt, ct, b⟩ := y
  obtain rfl : b = x.b := hb
  have T0 := hide (Two.start hx hy 39)
  have na := hx.na
  have ni := hx.ni
  have nb := hx.nb
  have nl := hx.nl
  have nt := hx.nt
  clear hx hy
  go_enter Tryz.func10, Tryz.ntmps10
  go_wp2_with fail
  refine (AccountHelp.eqS _ x.ga ga _ x.ca ca x.b.ac rfl na (unhide T0).rx.la (unhide T0).ry.la (unhide T0).rx.ra (unhide T0).ry.ra).mono ?_
  rintro e w1 ⟨rfl, bb⟩
  have T1 := hide ((unhide T0).step bb)
  clear bb
  have p1 := (unhide T1).cx.c1
  have r1 := (unhide T1).cy.c1
  go_wp2_with fail
  refine (InstrHelp.eqS _ x.gi gi _ x.ci ci x.b.ic rfl ni (unhide T1).rx.li (unhide T1).ry.li (unhide T1).rx.ri (unhide T1).ry.ri).mono ?_
  rintro e w2 ⟨rfl, bb⟩
  have T2 := hide ((unhide T1).step bb)
  clear bb
  have p2 := (unhide T2).cx.c2
  have r2 := (unhide T2).cy.c2
  go_wp2_with fail
  refine (BalHelp.eqS _ x.gb gb _ x.cb cb x.b.bs rfl nb (unhide T2).rx.lb (unhide T2).ry.lb (unhide T2).rx.rb (unhide T2).ry.rb).mono ?_
  rintro e w3 ⟨rfl, bb⟩
  have T3 := hide ((unhide T2).step bb)
  clear bb
  have p3 := (unhide T3).cx.c3
  have r3 := (unhide T3).cy.c3
  go_wp2_with fail
  refine (LotHelp.eqS _ x.gl gl _ x.cl cl x.b.ls rfl nl (unhide T3).rx.ll (unhide T3).ry.ll (unhide T3).rx.rl (unhide T3).ry.rl).mono ?_
  rintro e w4 ⟨rfl, bb⟩
  have T4 := hide ((unhide T3).step bb)
  clear bb
  have p4 := (unhide T4).cx.c4
  have r4 := (unhide T4).cy.c4
  go_wp2_with fail
  refine (TradeHelp.eqS _ x.gt gt _ x.ct ct x.b.ts rfl nt (unhide T4).rx.lt (unhide T4).ry.lt (unhide T4).rx.rt (unhide T4).ry.rt).mono ?_
  rintro e w5 ⟨rfl, bb⟩
  have T5 := hide ((unhide T4).step bb)
  clear bb
  have p5 := (unhide T5).cx.c5
  have r5 := (unhide T5).cy.c5
  go_wp2
  go_ret
  exact ⟨rfl, (unhide T5).b⟩
/-- Books that bear marks. -/
def e1 (b : Bk) : Int := 1 + 2 * (b.ac.length : Int)
def e2 (b : Bk) : Int := e1 b + 2 * (b.ic.length : Int)
def e3 (b : Bk) : Int := e2 b + 3 * (b.bs.length : Int)
def e4 (b : Bk) : Int := e3 b + 5 * (b.ls.length : Int)
def e5 (b : Bk) : Int := e4 b + 8 * (b.ts.length : Int)
theorem e_bd {b : Bk} (h : Small b) : (1 ≤ e1 b ∧ e1 b ≤ 100000000) ∧ (1 ≤ e2 b ∧ e2 b ≤ 100000000) ∧ (1 ≤ e3 b ∧ e3 b ≤ 100000000) ∧ (1 ≤ e4 b ∧ e4 b ≤ 100000000) ∧ (1 ≤ e5 b ∧ e5 b ≤ 100000000) := by
  obtain ⟨h1, h2, h3, h4, h5⟩ := h
  unfold e5 e4 e3 e2 e1
  omega
structure OwM (w : World) (base : Nat) (x : Bx) : Prop where
  oa : Pairs.Own 82 w base x.ga x.b.ac.length x.ca (AccountMark.marks 1 x.b.ac.length)
  oi : Pairs.Own 83 w base x.gi x.b.ic.length x.ci (InstrMark.marks (e1 x.b) x.b.ic.length)
  ob : Triples.Own3 85 w base x.gb x.b.bs.length x.cb (BalHelp.marks (e2 x.b) x.b.bs.length)
  ol : Tup5.Own5 87 w base x.gl x.b.ls.length x.cl (LotHelp.marks (e3 x.b) x.b.ls.length)
  ot : Tup8.Own8 79 w base x.gt x.b.ts.length x.ct (TradeHelp.marks (e4 x.b) x.b.ts.length)
theorem OwM.below {w w' : World} {base : Nat} {x : Bx} (h : OwM w base x) (k : Below w.heap.size w w') : OwM w' base x :=
  ⟨h.oa.below k h.oa.lt.2, h.oi.below k h.oi.lt.2, h.ob.below k h.ob.lt.2, h.ol.below k h.ol.lt.2, h.ot.below k h.ot.lt.2⟩
set_option maxRecDepth 100000 in
set_option maxHeartbeats 4000000 in
theorem markB (w : World) (base : Nat) (x : Bx) (h : Ow w base x) (hs : Small x.b) :
    Calls Tryz.prog 11 #[.agg #[.slice (some ⟨x.ga, 0, none⟩) x.b.ac.length x.ca, .slice (some ⟨x.gi, 0, none⟩) x.b.ic.length x.ci, .slice (some ⟨x.gb, 0, none⟩) x.b.bs.length x.cb, .slice (some ⟨x.gl, 0, none⟩) x.b.ls.length x.cl, .slice (some ⟨x.gt, 0, none⟩) x.b.ts.length x.ct, .int .i64 x.b.lot], .int .i64 1] w fun e w' => e = .returned (.int .i64 (e5 x.b)) ∧ OwM w' base x ∧ Turn x w w' := by
  obtain ⟨⟨l1, u1⟩, ⟨l2, u2⟩, ⟨l3, u3⟩, ⟨l4, u4⟩, ⟨l5, u5⟩⟩ := e_bd hs
  obtain ⟨na, ni, nb, nl, nt⟩ := hs
  have xai : x.ga ≠ x.gi := row_apart h.oa h.oi (by decide)
  have xab : x.ga ≠ x.gb := row_apart h.oa h.ob (by decide)
  have xal : x.ga ≠ x.gl := row_apart h.oa h.ol (by decide)
  have xat : x.ga ≠ x.gt := row_apart h.oa h.ot (by decide)
  have xib : x.gi ≠ x.gb := row_apart h.oi h.ob (by decide)
  have xil : x.gi ≠ x.gl := row_apart h.oi h.ol (by decide)
  have xit : x.gi ≠ x.gt := row_apart h.oi h.ot (by decide)
  have xbl : x.gb ≠ x.gl := row_apart h.ob h.ol (by decide)
  have xbt : x.gb ≠ x.gt := row_apart h.ob h.ot (by decide)
  have xlt : x.gl ≠ x.gt := row_apart h.ol h.ot (by decide)
  have za : w.heap.size ≠ x.ga := by have := h.oa.lt; omega
  have Oa := hide (h.oa.alloc (.cells #[.slice (some ⟨x.ga, 0, none⟩) x.b.ac.length x.ca, .slice (some ⟨x.gi, 0, none⟩) x.b.ic.length x.ci, .slice (some ⟨x.gb, 0, none⟩) x.b.bs.length x.cb, .slice (some ⟨x.gl, 0, none⟩) x.b.ls.length x.cl, .slice (some ⟨x.gt, 0, none⟩) x.b.ts.length x.ct, .int .i64 x.b.lot] 39))
  have zi : w.heap.size ≠ x.gi := by have := h.oi.lt; omega
  have Oi := hide (h.oi.alloc (.cells #[.slice (some ⟨x.ga, 0, none⟩) x.b.ac.length x.ca, .slice (some ⟨x.gi, 0, none⟩) x.b.ic.length x.ci, .slice (some ⟨x.gb, 0, none⟩) x.b.bs.length x.cb, .slice (some ⟨x.gl, 0, none⟩) x.b.ls.length x.cl, .slice (some ⟨x.gt, 0, none⟩) x.b.ts.length x.ct, .int .i64 x.b.lot] 39))
  have zb : w.heap.size ≠ x.gb := by have := h.ob.lt; omega
  have Ob := hide (h.ob.alloc (.cells #[.slice (some ⟨x.ga, 0, none⟩) x.b.ac.length x.ca, .slice (some ⟨x.gi, 0, none⟩) x.b.ic.length x.ci, .slice (some ⟨x.gb, 0, none⟩) x.b.bs.length x.cb, .slice (some ⟨x.gl, 0, none⟩) x.b.ls.length x.cl, .slice (some ⟨x.gt, 0, none⟩) x.b.ts.length x.ct, .int .i64 x.b.lot] 39))
  have zl : w.heap.size ≠ x.gl := by have := h.ol.lt; omega
  have Ol := hide (h.ol.alloc (.cells #[.slice (some ⟨x.ga, 0, none⟩) x.b.ac.length x.ca, .slice (some ⟨x.gi, 0, none⟩) x.b.ic.length x.ci, .slice (some ⟨x.gb, 0, none⟩) x.b.bs.length x.cb, .slice (some ⟨x.gl, 0, none⟩) x.b.ls.length x.cl, .slice (some ⟨x.gt, 0, none⟩) x.b.ts.length x.ct, .int .i64 x.b.lot] 39))
  have zt : w.heap.size ≠ x.gt := by have := h.ot.lt; omega
  have Ot := hide (h.ot.alloc (.cells #[.slice (some ⟨x.ga, 0, none⟩) x.b.ac.length x.ca, .slice (some ⟨x.gi, 0, none⟩) x.b.ic.length x.ci, .slice (some ⟨x.gb, 0, none⟩) x.b.bs.length x.cb, .slice (some ⟨x.gl, 0, none⟩) x.b.ls.length x.cl, .slice (some ⟨x.gt, 0, none⟩) x.b.ts.length x.ct, .int .i64 x.b.lot] 39))
  have T0 := hide ((Turn.refl x w).alloc (.cells #[.slice (some ⟨x.ga, 0, none⟩) x.b.ac.length x.ca, .slice (some ⟨x.gi, 0, none⟩) x.b.ic.length x.ci, .slice (some ⟨x.gb, 0, none⟩) x.b.bs.length x.cb, .slice (some ⟨x.gl, 0, none⟩) x.b.ls.length x.cl, .slice (some ⟨x.gt, 0, none⟩) x.b.ts.length x.ct, .int .i64 x.b.lot] 39))
  have C0 := hide (boxed w x 39)
  clear h
  go_enter Tryz.func11, Tryz.ntmps11
  go_wp2_with fail
  refine (AccountMark.markS _ base x.ga _ x.ca 1 x.b.ac na (by omega) (by omega) (unhide Oa)).mono ?_
  rintro e w1 ⟨he, o, gr⟩
  replace he : e = .returned (.int .i64 (e1 x.b)) := he
  subst he
  have T1 := hide ((unhide T0).grown gr (by simp))
  have C1 := hide (show Cl w1 w.heap.size x from ⟨gr.cell (unhide C0).c0 (fun e => za (by injection e)), gr.cell (unhide C0).c1 (fun e => za (by injection e)), gr.cell (unhide C0).c2 (fun e => za (by injection e)), gr.cell (unhide C0).c3 (fun e => za (by injection e)), gr.cell (unhide C0).c4 (fun e => za (by injection e)), gr.cell (unhide C0).c5 (fun e => za (by injection e))⟩)
  replace Oa := hide o
  replace Oi := hide ((unhide Oi).kept gr (fun e => xai (by injection e with e; exact e.symm)))
  replace Ob := hide ((unhide Ob).kept gr (fun e => xab (by injection e with e; exact e.symm)))
  replace Ol := hide ((unhide Ol).kept gr (fun e => xal (by injection e with e; exact e.symm)))
  replace Ot := hide ((unhide Ot).kept gr (fun e => xat (by injection e with e; exact e.symm)))
  clear o gr
  have p1 := (unhide C1).c1
  go_wp2_with fail
  refine (InstrMark.markS _ base x.gi _ x.ci (e1 x.b) x.b.ic ni (by omega) (by omega) (unhide Oi)).mono ?_
  rintro e w2 ⟨he, o, gr⟩
  replace he : e = .returned (.int .i64 (e2 x.b)) := he
  subst he
  have T2 := hide ((unhide T1).grown gr (by simp))
  have C2 := hide (show Cl w2 w.heap.size x from ⟨gr.cell (unhide C1).c0 (fun e => zi (by injection e)), gr.cell (unhide C1).c1 (fun e => zi (by injection e)), gr.cell (unhide C1).c2 (fun e => zi (by injection e)), gr.cell (unhide C1).c3 (fun e => zi (by injection e)), gr.cell (unhide C1).c4 (fun e => zi (by injection e)), gr.cell (unhide C1).c5 (fun e => zi (by injection e))⟩)
  replace Oi := hide o
  replace Oa := hide ((unhide Oa).kept gr (fun e => xai (by injection e)))
  replace Ob := hide ((unhide Ob).kept gr (fun e => xib (by injection e with e; exact e.symm)))
  replace Ol := hide ((unhide Ol).kept gr (fun e => xil (by injection e with e; exact e.symm)))
  replace Ot := hide ((unhide Ot).kept gr (fun e => xit (by injection e with e; exact e.symm)))
  clear o gr
  have p2 := (unhide C2).c2
  go_wp2_with fail
  refine (BalHelp.markS _ base x.gb _ x.cb (e2 x.b) x.b.bs nb (by omega) (by omega) (unhide Ob)).mono ?_
  rintro e w3 ⟨he, o, gr⟩
  replace he : e = .returned (.int .i64 (e3 x.b)) := he
  subst he
  have T3 := hide ((unhide T2).grown gr (by simp))
  have C3 := hide (show Cl w3 w.heap.size x from ⟨gr.cell (unhide C2).c0 (fun e => zb (by injection e)), gr.cell (unhide C2).c1 (fun e => zb (by injection e)), gr.cell (unhide C2).c2 (fun e => zb (by injection e)), gr.cell (unhide C2).c3 (fun e => zb (by injection e)), gr.cell (unhide C2).c4 (fun e => zb (by injection e)), gr.cell (unhide C2).c5 (fun e => zb (by injection e))⟩)
  replace Ob := hide o
  replace Oa := hide ((unhide Oa).kept gr (fun e => xab (by injection e)))
  replace Oi := hide ((unhide Oi).kept gr (fun e => xib (by injection e)))
  replace Ol := hide ((unhide Ol).kept gr (fun e => xbl (by injection e with e; exact e.symm)))
  replace Ot := hide ((unhide Ot).kept gr (fun e => xbt (by injection e with e; exact e.symm)))
  clear o gr
  have p3 := (unhide C3).c3
  go_wp2_with fail
  refine (LotHelp.markS _ base x.gl _ x.cl (e3 x.b) x.b.ls nl (by omega) (by omega) (unhide Ol)).mono ?_
  rintro e w4 ⟨he, o, gr⟩
  replace he : e = .returned (.int .i64 (e4 x.b)) := he
  subst he
  have T4 := hide ((unhide T3).grown gr (by simp))
  have C4 := hide (show Cl w4 w.heap.size x from ⟨gr.cell (unhide C3).c0 (fun e => zl (by injection e)), gr.cell (unhide C3).c1 (fun e => zl (by injection e)), gr.cell (unhide C3).c2 (fun e => zl (by injection e)), gr.cell (unhide C3).c3 (fun e => zl (by injection e)), gr.cell (unhide C3).c4 (fun e => zl (by injection e)), gr.cell (unhide C3).c5 (fun e => zl (by injection e))⟩)
  replace Ol := hide o
  replace Oa := hide ((unhide Oa).kept gr (fun e => xal (by injection e)))
  replace Oi := hide ((unhide Oi).kept gr (fun e => xil (by injection e)))
  replace Ob := hide ((unhide Ob).kept gr (fun e => xbl (by injection e)))
  replace Ot := hide ((unhide Ot).kept gr (fun e => xlt (by injection e with e; exact e.symm)))
  clear o gr
  have p4 := (unhide C4).c4
  go_wp2_with fail
  refine (TradeHelp.markS _ base x.gt _ x.ct (e4 x.b) x.b.ts nt (by omega) (by omega) (unhide Ot)).mono ?_
  rintro e w5 ⟨he, o, gr⟩
  replace he : e = .returned (.int .i64 (e5 x.b)) := he
  subst he
  have T5 := hide ((unhide T4).grown gr (by simp))
  have C5 := hide (show Cl w5 w.heap.size x from ⟨gr.cell (unhide C4).c0 (fun e => zt (by injection e)), gr.cell (unhide C4).c1 (fun e => zt (by injection e)), gr.cell (unhide C4).c2 (fun e => zt (by injection e)), gr.cell (unhide C4).c3 (fun e => zt (by injection e)), gr.cell (unhide C4).c4 (fun e => zt (by injection e)), gr.cell (unhide C4).c5 (fun e => zt (by injection e))⟩)
  replace Ot := hide o
  replace Oa := hide ((unhide Oa).kept gr (fun e => xat (by injection e)))
  replace Oi := hide ((unhide Oi).kept gr (fun e => xit (by injection e)))
  replace Ob := hide ((unhide Ob).kept gr (fun e => xbt (by injection e)))
  replace Ol := hide ((unhide Ol).kept gr (fun e => xlt (by injection e)))
  clear o gr
  go_wp2
  go_ret
  exact ⟨rfl, ⟨unhide Oa, unhide Oi, unhide Ob, unhide Ol, unhide Ot⟩, unhide T5⟩
end Go.Proofs.YtefcigaalgfmiaaGreat.BkEq
namespace Go.Proofs.YtefcigaalgfmiaaGreat.Opens
open Go.ChangeShapes Go.WideShapes Go.ChangeAt Go.RowKit Pairs
theorem open_pairs {H : Type} {enc : TypeId × Value → H} {P : Program} {w : World} {base : Nat} {spare : Nat → Bool} {held : Bool} {t e i : TypeId} {n0 n1 : String} {b0 b1 : Bool} {t0 t1 p0 p1 : String} {o0 o1 : Nat} {fuel : Nat} {a : Option Addr} {len cap : Nat} {x : DataW H × List MemPlace}
    (ht : P.underlying t = some (.slice e)) (he : P.underlying e = some (.struct #[{ name := n0, type := i, offset := 0, embedded := b0, tag := t0, pkgPath := p0, byteOffset := o0 }, { name := n1, type := i, offset := 1, embedded := b1, tag := t1, pkgPath := p1, byteOffset := o1 }]))
    (hc : (P.cellsOf e == 2 && P.cellsOf i == 1) = true) (hi : P.underlying i = some (.int .i64))
    (h : DataW.trod enc P w base spare held fuel t (Value.slice a len cap).cells.toList = some x) : ∃ ps : List (Int × Int), ps.length = len ∧ len ≤ 9223372036854775807 ∧ Reads w a ps := by
  have hc' : P.cellsOf e = 2 ∧ P.cellsOf i = 1 := by simpa using hc
  rcases Deep.open_slice_pairs ht he hc'.1 rfl rfl hc'.2 hc'.2 h with ⟨hcs, _⟩ | ⟨b, l, c, m, n, V0, V1, D0, D1, P0, P1, hcs, _, hlc, hm, hmm, _, hx⟩
  · simp [Value.cells] at hcs
    obtain ⟨rfl, rfl, rfl⟩ := hcs
    exact ⟨[], rfl, by omega, .inl rfl⟩
  · simp [Value.cells] at hcs
    obtain ⟨rfl, rfl, rfl⟩ := hcs
    have hlm : len ≤ m := by rw [hmm]; split <;> omega
    refine ⟨(List.range len).map fun i => (intOf (V0 i), intOf (V1 i)), by simp, by unfold maxLen at hm; omega, ?_⟩
    by_cases z : len = 0
    · exact .inl (by simp [z])
    · have val : ∀ i, i < len → V0 i = .int .i64 (intOf (V0 i)) ∧ V1 i = .int .i64 (intOf (V1 i)) := fun i hi' => by
        obtain ⟨_, _, q0, q1⟩ := hx i (by omega)
        obtain ⟨x0, e0, _⟩ := DataW.trod_int hi q0
        obtain ⟨x1, e1, _⟩ := DataW.trod_int hi q1
        simp at e0 e1
        rw [e0, e1]
        exact ⟨rfl, rfl⟩
      obtain ⟨blk, off, spot⟩ := b
      have c0 := (hx 0 (by omega)).1
      have hspot : spot = none := by simpa [Addr.add] using World.cell?_spot c0
      subst hspot
      have c0' : w.cell? ⟨blk, off, none⟩ = some (V0 0) := by simpa [Addr.add] using c0
      refine .inr ⟨blk, off, rfl, World.block_lt_of_cell? w _ c0', fun i hi' => ?_⟩
      have hi'' : i < len := by simpa using hi'
      obtain ⟨q0, q1, _⟩ := hx i (by omega)
      obtain ⟨v0, v1⟩ := val i hi''
      rw [Addr.add_lit] at q0 q1
      have hg : ((List.range len).map fun i => (intOf (V0 i), intOf (V1 i))).getD i (0, 0) = (intOf (V0 i), intOf (V1 i)) := by simp [List.getD, hi'']
      rw [hg]
      exact ⟨by rw [q0]; exact congrArg some v0, by rw [Nat.add_assoc, q1]; exact congrArg some v1⟩
end Go.Proofs.YtefcigaalgfmiaaGreat.Opens
namespace Go.Proofs.YtefcigaalgfmiaaGreat.Opens3
open Go.ChangeShapes Go.WideShapes Go.ChangeAt Go.RowKit Bals Triples
theorem open_triples {H : Type} {enc : TypeId × Value → H} {P : Program} {w : World} {base : Nat} {spare : Nat → Bool} {held : Bool} {t e i : TypeId} {f0 f1 f2 : Field} {fuel : Nat} {a : Option Addr} {len cap : Nat} {x : DataW H × List MemPlace}
    (ht : P.underlying t = some (.slice e)) (he : P.underlying e = some (.struct #[f0, f1, f2]))
    (hc : (P.cellsOf e == 3 && P.cellsOf i == 1 && f0.type == i && f1.type == i && f2.type == i && f0.offset == 0 && f1.offset == 1 && f2.offset == 2) = true) (hi : P.underlying i = some (.int .i64))
    (h : DataW.trod enc P w base spare held fuel t (Value.slice a len cap).cells.toList = some x) : ∃ ps : List T3, ps.length = len ∧ len ≤ 9223372036854775807 ∧ Reads3 w a ps := by
  simp at hc
  obtain ⟨⟨⟨⟨⟨⟨⟨ce, ci⟩, e0⟩, e1⟩, e2⟩, o0⟩, o1⟩, o2⟩ := hc
  rcases Deep.open_slice ht h with ⟨hcs, _⟩ | ⟨b, l, c, m, n, D, Pl, hcs, _, hlc, hm, hmm, _, hx⟩
  · simp [Value.cells] at hcs
    obtain ⟨rfl, rfl, rfl⟩ := hcs
    exact ⟨[], rfl, by omega, .inl rfl⟩
  · simp [Value.cells] at hcs
    obtain ⟨rfl, rfl, rfl⟩ := hcs
    have hlm : len ≤ m := by rw [hmm]; split <;> omega
    have each : ∀ j, j < len → ∃ p : T3, w.cell? (b.add (j * 3)) = some (.int .i64 p.1) ∧ w.cell? (b.add (j * 3 + 1)) = some (.int .i64 p.2.1) ∧ w.cell? (b.add (j * 3 + 2)) = some (.int .i64 p.2.2) := by
      intro j hj
      obtain ⟨cs', h1, h2⟩ := hx j (by omega)
      rw [ce] at h1
      obtain ⟨_, hlen, hcell⟩ := World.cells?_some h1
      obtain ⟨y0, y1, y2, k, _, _, g0, g1, g2⟩ := Deep.trod_struct3 he h2
      match cs', hlen with
      | [v0, v1, v2], _ =>
        rw [e0] at g0
        rw [e1] at g1
        rw [e2] at g2
        simp [o0, o1, o2, ci] at g0 g1 g2
        obtain ⟨x0, q0, _⟩ := DataW.trod_int hi g0
        obtain ⟨x1, q1, _⟩ := DataW.trod_int hi g1
        obtain ⟨x2, q2, _⟩ := DataW.trod_int hi g2
        simp at q0 q1 q2
        subst q0 q1 q2
        have d0 := hcell 0 (by omega)
        have d1 := hcell 1 (by omega)
        have d2 := hcell 2 (by omega)
        rw [Deep.add_add] at d0 d1 d2
        exact ⟨(x0, x1, x2), by simpa using d0, by simpa using d1, by simpa using d2⟩
    obtain ⟨q, hq⟩ := Deep.choose_lt each
    refine ⟨(List.range len).map q, by simp, by unfold maxLen at hm; omega, ?_⟩
    by_cases z : len = 0
    · exact .inl (by simp [z])
    · obtain ⟨blk, off, spot⟩ := b
      have c0 := (hq 0 (by omega)).1
      have hspot : spot = none := by simpa [Addr.add] using World.cell?_spot c0
      subst hspot
      have c0' : w.cell? ⟨blk, off, none⟩ = some (.int .i64 (q 0).1) := by simpa [Addr.add] using c0
      refine .inr ⟨blk, off, rfl, World.block_lt_of_cell? w _ c0', fun j hj => ?_⟩
      have hj' : j < len := by simpa using hj
      obtain ⟨p0, p1, p2⟩ := hq j hj'
      rw [Addr.add_lit] at p0 p1 p2
      have hg : el3 ((List.range len).map q) j = q j := by simp [List.getD, hj']
      rw [hg]
      exact ⟨p0, by rw [Nat.add_assoc]; exact p1, by rw [Nat.add_assoc]; exact p2⟩
end Go.Proofs.YtefcigaalgfmiaaGreat.Opens3
namespace Go.Proofs.YtefcigaalgfmiaaGreat.Opens5
open Go.ChangeShapes Go.WideShapes Go.ChangeAt Go.RowKit Tup5
/-- The cells of a struct of 5 numbers. -/
theorem cells_of {H : Type} {enc : TypeId × Value → H} {P : Program} {w : World} {base : Nat} {spare : Nat → Bool} {held : Bool} {e i : TypeId} {f0 f1 f2 f3 f4 : Field} {fuel : Nat} {cs : List Value} {x : DataW H × List MemPlace}
    (he : P.underlying e = some (.struct #[f0, f1, f2, f3, f4])) (hc : (P.cellsOf e == 5 && P.cellsOf i == 1 && f0.type == i && f1.type == i && f2.type == i && f3.type == i && f4.type == i && f0.offset == 0 && f1.offset == 1 && f2.offset == 2 && f3.offset == 3 && f4.offset == 4) = true) (hi : P.underlying i = some (.int .i64))
    (h : DataW.trod enc P w base spare held fuel e cs = some x) : ∃ p : T5, cs = [.int .i64 p.1, .int .i64 p.2.1, .int .i64 p.2.2.1, .int .i64 p.2.2.2.1, .int .i64 p.2.2.2.2] := by
  simp at hc
  obtain ⟨⟨⟨⟨⟨⟨⟨⟨⟨⟨⟨ce, ci⟩, e0⟩, e1⟩, e2⟩, e3⟩, e4⟩, o0⟩, o1⟩, o2⟩, o3⟩, o4⟩ := hc
  obtain ⟨xs, k, _, _, hl, hlen, hf⟩ := DataW.trod_struct he h
  rw [ce] at hl
  match xs, hlen, cs, hl with
  | [y0, y1, y2, y3, y4], _, [v0, v1, v2, v3, v4], _ =>
    have g0 := hf 0 f0 rfl
    have g1 := hf 1 f1 rfl
    have g2 := hf 2 f2 rfl
    have g3 := hf 3 f3 rfl
    have g4 := hf 4 f4 rfl
    rw [e0] at g0
    simp [o0, ci] at g0
    obtain ⟨x0, q0, _⟩ := DataW.trod_int hi g0
    simp at q0
    rw [e1] at g1
    simp [o1, ci] at g1
    obtain ⟨x1, q1, _⟩ := DataW.trod_int hi g1
    simp at q1
    rw [e2] at g2
    simp [o2, ci] at g2
    obtain ⟨x2, q2, _⟩ := DataW.trod_int hi g2
    simp at q2
    rw [e3] at g3
    simp [o3, ci] at g3
    obtain ⟨x3, q3, _⟩ := DataW.trod_int hi g3
    simp at q3
    rw [e4] at g4
    simp [o4, ci] at g4
    obtain ⟨x4, q4, _⟩ := DataW.trod_int hi g4
    simp at q4
    subst q0 q1 q2 q3 q4
    exact ⟨(x0, x1, x2, x3, x4), rfl⟩
theorem open_rows {H : Type} {enc : TypeId × Value → H} {P : Program} {w : World} {base : Nat} {spare : Nat → Bool} {held : Bool} {t e i : TypeId} {f0 f1 f2 f3 f4 : Field} {fuel : Nat} {a : Option Addr} {len cap : Nat} {x : DataW H × List MemPlace}
    (ht : P.underlying t = some (.slice e)) (he : P.underlying e = some (.struct #[f0, f1, f2, f3, f4])) (hc : (P.cellsOf e == 5 && P.cellsOf i == 1 && f0.type == i && f1.type == i && f2.type == i && f3.type == i && f4.type == i && f0.offset == 0 && f1.offset == 1 && f2.offset == 2 && f3.offset == 3 && f4.offset == 4) = true) (hi : P.underlying i = some (.int .i64))
    (h : DataW.trod enc P w base spare held fuel t (Value.slice a len cap).cells.toList = some x) : ∃ ps : List T5, ps.length = len ∧ len ≤ 9223372036854775807 ∧ Reads5 w a ps := by
  have ce : P.cellsOf e = 5 := by
    simp at hc
    exact hc.1.1.1.1.1.1.1.1.1.1.1
  rcases Deep.open_slice ht h with ⟨hcs, _⟩ | ⟨b, l, c, m, n, D, Pl, hcs, _, hlc, hm, hmm, _, hx⟩
  · simp [Value.cells] at hcs
    obtain ⟨rfl, rfl, rfl⟩ := hcs
    exact ⟨[], rfl, by omega, .inl rfl⟩
  · simp [Value.cells] at hcs
    obtain ⟨rfl, rfl, rfl⟩ := hcs
    have hlm : len ≤ m := by rw [hmm]; split <;> omega
    have each : ∀ j, j < len → ∃ p : T5, w.cell? (b.add (j * 5)) = some (.int .i64 p.1) ∧ w.cell? (b.add (j * 5 + 1)) = some (.int .i64 p.2.1) ∧ w.cell? (b.add (j * 5 + 2)) = some (.int .i64 p.2.2.1) ∧ w.cell? (b.add (j * 5 + 3)) = some (.int .i64 p.2.2.2.1) ∧ w.cell? (b.add (j * 5 + 4)) = some (.int .i64 p.2.2.2.2) := by
      intro j hj
      obtain ⟨cs', h1, h2⟩ := hx j (by omega)
      rw [ce] at h1
      obtain ⟨_, hlen, hcell⟩ := World.cells?_some h1
      obtain ⟨p, rfl⟩ := cells_of he hc hi h2
      have d0 := hcell 0 (by omega)
      have d1 := hcell 1 (by omega)
      have d2 := hcell 2 (by omega)
      have d3 := hcell 3 (by omega)
      have d4 := hcell 4 (by omega)
      rw [Deep.add_add] at d0 d1 d2 d3 d4
      exact ⟨p, by simpa using d0, by simpa using d1, by simpa using d2, by simpa using d3, by simpa using d4⟩
    obtain ⟨q, hq⟩ := Deep.choose_lt each
    refine ⟨(List.range len).map q, by simp, by unfold maxLen at hm; omega, ?_⟩
    by_cases z : len = 0
    · exact .inl (by simp [z])
    · obtain ⟨blk, off, spot⟩ := b
      have c0 := (hq 0 (by omega)).1
      have hspot : spot = none := by simpa [Addr.add] using World.cell?_spot c0
      subst hspot
      have c0' : w.cell? ⟨blk, off, none⟩ = some (.int .i64 (q 0).1) := by simpa [Addr.add] using c0
      refine .inr ⟨blk, off, rfl, World.block_lt_of_cell? w _ c0', fun j hj => ?_⟩
      have hj' : j < len := by simpa using hj
      obtain ⟨p0, p1, p2, p3, p4⟩ := hq j hj'
      rw [Addr.add_lit] at p0 p1 p2 p3 p4
      have hg : el5 ((List.range len).map q) j = q j := by simp [List.getD, hj']
      rw [hg]
      exact ⟨p0, by rw [Nat.add_assoc]; exact p1, by rw [Nat.add_assoc]; exact p2, by rw [Nat.add_assoc]; exact p3, by rw [Nat.add_assoc]; exact p4⟩
end Go.Proofs.YtefcigaalgfmiaaGreat.Opens5
namespace Go.Proofs.YtefcigaalgfmiaaGreat.Opens8
open Go.ChangeShapes Go.WideShapes Go.ChangeAt Go.RowKit Tup8
/-- The cells of a struct of 8 numbers. -/
theorem cells_of {H : Type} {enc : TypeId × Value → H} {P : Program} {w : World} {base : Nat} {spare : Nat → Bool} {held : Bool} {e i : TypeId} {f0 f1 f2 f3 f4 f5 f6 f7 : Field} {fuel : Nat} {cs : List Value} {x : DataW H × List MemPlace}
    (he : P.underlying e = some (.struct #[f0, f1, f2, f3, f4, f5, f6, f7])) (hc : (P.cellsOf e == 8 && P.cellsOf i == 1 && f0.type == i && f1.type == i && f2.type == i && f3.type == i && f4.type == i && f5.type == i && f6.type == i && f7.type == i && f0.offset == 0 && f1.offset == 1 && f2.offset == 2 && f3.offset == 3 && f4.offset == 4 && f5.offset == 5 && f6.offset == 6 && f7.offset == 7) = true) (hi : P.underlying i = some (.int .i64))
    (h : DataW.trod enc P w base spare held fuel e cs = some x) : ∃ p : T8, cs = [.int .i64 p.1, .int .i64 p.2.1, .int .i64 p.2.2.1, .int .i64 p.2.2.2.1, .int .i64 p.2.2.2.2.1, .int .i64 p.2.2.2.2.2.1, .int .i64 p.2.2.2.2.2.2.1, .int .i64 p.2.2.2.2.2.2.2] := by
  simp at hc
  obtain ⟨⟨⟨⟨⟨⟨⟨⟨⟨⟨⟨⟨⟨⟨⟨⟨⟨ce, ci⟩, e0⟩, e1⟩, e2⟩, e3⟩, e4⟩, e5⟩, e6⟩, e7⟩, o0⟩, o1⟩, o2⟩, o3⟩, o4⟩, o5⟩, o6⟩, o7⟩ := hc
  obtain ⟨xs, k, _, _, hl, hlen, hf⟩ := DataW.trod_struct he h
  rw [ce] at hl
  match xs, hlen, cs, hl with
  | [y0, y1, y2, y3, y4, y5, y6, y7], _, [v0, v1, v2, v3, v4, v5, v6, v7], _ =>
    have g0 := hf 0 f0 rfl
    have g1 := hf 1 f1 rfl
    have g2 := hf 2 f2 rfl
    have g3 := hf 3 f3 rfl
    have g4 := hf 4 f4 rfl
    have g5 := hf 5 f5 rfl
    have g6 := hf 6 f6 rfl
    have g7 := hf 7 f7 rfl
    rw [e0] at g0
    simp [o0, ci] at g0
    obtain ⟨x0, q0, _⟩ := DataW.trod_int hi g0
    simp at q0
    rw [e1] at g1
    simp [o1, ci] at g1
    obtain ⟨x1, q1, _⟩ := DataW.trod_int hi g1
    simp at q1
    rw [e2] at g2
    simp [o2, ci] at g2
    obtain ⟨x2, q2, _⟩ := DataW.trod_int hi g2
    simp at q2
    rw [e3] at g3
    simp [o3, ci] at g3
    obtain ⟨x3, q3, _⟩ := DataW.trod_int hi g3
    simp at q3
    rw [e4] at g4
    simp [o4, ci] at g4
    obtain ⟨x4, q4, _⟩ := DataW.trod_int hi g4
    simp at q4
    rw [e5] at g5
    simp [o5, ci] at g5
    obtain ⟨x5, q5, _⟩ := DataW.trod_int hi g5
    simp at q5
    rw [e6] at g6
    simp [o6, ci] at g6
    obtain ⟨x6, q6, _⟩ := DataW.trod_int hi g6
    simp at q6
    rw [e7] at g7
    simp [o7, ci] at g7
    obtain ⟨x7, q7, _⟩ := DataW.trod_int hi g7
    simp at q7
    subst q0 q1 q2 q3 q4 q5 q6 q7
    exact ⟨(x0, x1, x2, x3, x4, x5, x6, x7), rfl⟩
theorem open_rows {H : Type} {enc : TypeId × Value → H} {P : Program} {w : World} {base : Nat} {spare : Nat → Bool} {held : Bool} {t e i : TypeId} {f0 f1 f2 f3 f4 f5 f6 f7 : Field} {fuel : Nat} {a : Option Addr} {len cap : Nat} {x : DataW H × List MemPlace}
    (ht : P.underlying t = some (.slice e)) (he : P.underlying e = some (.struct #[f0, f1, f2, f3, f4, f5, f6, f7])) (hc : (P.cellsOf e == 8 && P.cellsOf i == 1 && f0.type == i && f1.type == i && f2.type == i && f3.type == i && f4.type == i && f5.type == i && f6.type == i && f7.type == i && f0.offset == 0 && f1.offset == 1 && f2.offset == 2 && f3.offset == 3 && f4.offset == 4 && f5.offset == 5 && f6.offset == 6 && f7.offset == 7) = true) (hi : P.underlying i = some (.int .i64))
    (h : DataW.trod enc P w base spare held fuel t (Value.slice a len cap).cells.toList = some x) : ∃ ps : List T8, ps.length = len ∧ len ≤ 9223372036854775807 ∧ Reads8 w a ps := by
  have ce : P.cellsOf e = 8 := by
    simp at hc
    exact hc.1.1.1.1.1.1.1.1.1.1.1.1.1.1.1.1.1
  rcases Deep.open_slice ht h with ⟨hcs, _⟩ | ⟨b, l, c, m, n, D, Pl, hcs, _, hlc, hm, hmm, _, hx⟩
  · simp [Value.cells] at hcs
    obtain ⟨rfl, rfl, rfl⟩ := hcs
    exact ⟨[], rfl, by omega, .inl rfl⟩
  · simp [Value.cells] at hcs
    obtain ⟨rfl, rfl, rfl⟩ := hcs
    have hlm : len ≤ m := by rw [hmm]; split <;> omega
    have each : ∀ j, j < len → ∃ p : T8, w.cell? (b.add (j * 8)) = some (.int .i64 p.1) ∧ w.cell? (b.add (j * 8 + 1)) = some (.int .i64 p.2.1) ∧ w.cell? (b.add (j * 8 + 2)) = some (.int .i64 p.2.2.1) ∧ w.cell? (b.add (j * 8 + 3)) = some (.int .i64 p.2.2.2.1) ∧ w.cell? (b.add (j * 8 + 4)) = some (.int .i64 p.2.2.2.2.1) ∧ w.cell? (b.add (j * 8 + 5)) = some (.int .i64 p.2.2.2.2.2.1) ∧ w.cell? (b.add (j * 8 + 6)) = some (.int .i64 p.2.2.2.2.2.2.1) ∧ w.cell? (b.add (j * 8 + 7)) = some (.int .i64 p.2.2.2.2.2.2.2) := by
      intro j hj
      obtain ⟨cs', h1, h2⟩ := hx j (by omega)
      rw [ce] at h1
      obtain ⟨_, hlen, hcell⟩ := World.cells?_some h1
      obtain ⟨p, rfl⟩ := cells_of he hc hi h2
      have d0 := hcell 0 (by omega)
      have d1 := hcell 1 (by omega)
      have d2 := hcell 2 (by omega)
      have d3 := hcell 3 (by omega)
      have d4 := hcell 4 (by omega)
      have d5 := hcell 5 (by omega)
      have d6 := hcell 6 (by omega)
      have d7 := hcell 7 (by omega)
      rw [Deep.add_add] at d0 d1 d2 d3 d4 d5 d6 d7
      exact ⟨p, by simpa using d0, by simpa using d1, by simpa using d2, by simpa using d3, by simpa using d4, by simpa using d5, by simpa using d6, by simpa using d7⟩
    obtain ⟨q, hq⟩ := Deep.choose_lt each
    refine ⟨(List.range len).map q, by simp, by unfold maxLen at hm; omega, ?_⟩
    by_cases z : len = 0
    · exact .inl (by simp [z])
    · obtain ⟨blk, off, spot⟩ := b
      have c0 := (hq 0 (by omega)).1
      have hspot : spot = none := by simpa [Addr.add] using World.cell?_spot c0
      subst hspot
      have c0' : w.cell? ⟨blk, off, none⟩ = some (.int .i64 (q 0).1) := by simpa [Addr.add] using c0
      refine .inr ⟨blk, off, rfl, World.block_lt_of_cell? w _ c0', fun j hj => ?_⟩
      have hj' : j < len := by simpa using hj
      obtain ⟨p0, p1, p2, p3, p4, p5, p6, p7⟩ := hq j hj'
      rw [Addr.add_lit] at p0 p1 p2 p3 p4 p5 p6 p7
      have hg : el8 ((List.range len).map q) j = q j := by simp [List.getD, hj']
      rw [hg]
      exact ⟨p0, by rw [Nat.add_assoc]; exact p1, by rw [Nat.add_assoc]; exact p2, by rw [Nat.add_assoc]; exact p3, by rw [Nat.add_assoc]; exact p4, by rw [Nat.add_assoc]; exact p5, by rw [Nat.add_assoc]; exact p6, by rw [Nat.add_assoc]; exact p7⟩
end Go.Proofs.YtefcigaalgfmiaaGreat.Opens8
namespace Go.Proofs.YtefcigaalgfmiaaGreat.OpensB
open Go.ChangeShapes Go.WideShapes Go.ChangeAt Go.RowKit BMem Bks BHelp BkEq
theorem slice_cell {H : Type} {enc : TypeId × Value → H} {P : Program} {w : World} {base : Nat} {spare : Nat → Bool} {held : Bool} {t e : TypeId} {fuel : Nat} {v : Value} {x : DataW H × List MemPlace}
    (ht : P.underlying t = some (.slice e)) (h : DataW.trod enc P w base spare held fuel t [v] = some x) : ∃ a len cap, v = .slice a len cap := by
  rcases Deep.open_slice ht h with ⟨hcs, _⟩ | ⟨b, l, c, m, n, D, Pl, hcs, _⟩
  · simp at hcs
    exact ⟨_, _, _, hcs⟩
  · simp at hcs
    exact ⟨_, _, _, hcs⟩
theorem struct_cells {H : Type} {enc : TypeId × Value → H} {P : Program} {w : World} {base : Nat} {spare : Nat → Bool} {held : Bool} {e : TypeId} {f0 f1 f2 f3 f4 f5 : Field} {fuel : Nat} {cs : List Value} {x : DataW H × List MemPlace}
    (he : P.underlying e = some (.struct #[f0, f1, f2, f3, f4, f5])) (hc : (P.cellsOf e == 6 && P.cellsOf f0.type == 1 && P.cellsOf f1.type == 1 && P.cellsOf f2.type == 1 && P.cellsOf f3.type == 1 && P.cellsOf f4.type == 1 && P.cellsOf f5.type == 1 && f0.offset == 0 && f1.offset == 1 && f2.offset == 2 && f3.offset == 3 && f4.offset == 4 && f5.offset == 5) = true)
    (h : DataW.trod enc P w base spare held fuel e cs = some x) : ∃ v0 v1 v2 v3 v4 v5 k x0 x1 x2 x3 x4 x5, cs = [v0, v1, v2, v3, v4, v5] ∧ DataW.trod enc P w base spare held k f0.type [v0] = some x0 ∧ DataW.trod enc P w base spare held k f1.type [v1] = some x1 ∧ DataW.trod enc P w base spare held k f2.type [v2] = some x2 ∧ DataW.trod enc P w base spare held k f3.type [v3] = some x3 ∧ DataW.trod enc P w base spare held k f4.type [v4] = some x4 ∧ DataW.trod enc P w base spare held k f5.type [v5] = some x5 := by
  simp at hc
  obtain ⟨⟨⟨⟨⟨⟨⟨⟨⟨⟨⟨⟨ce, k0⟩, k1⟩, k2⟩, k3⟩, k4⟩, k5⟩, o0⟩, o1⟩, o2⟩, o3⟩, o4⟩, o5⟩ := hc
  obtain ⟨xs, k, _, _, hl, hlen, hf⟩ := DataW.trod_struct he h
  rw [ce] at hl
  match xs, hlen, cs, hl with
  | [y0, y1, y2, y3, y4, y5], _, [v0, v1, v2, v3, v4, v5], _ =>
    have g0 := hf 0 f0 rfl
    have g1 := hf 1 f1 rfl
    have g2 := hf 2 f2 rfl
    have g3 := hf 3 f3 rfl
    have g4 := hf 4 f4 rfl
    have g5 := hf 5 f5 rfl
    simp [o0, k0] at g0
    simp [o1, k1] at g1
    simp [o2, k2] at g2
    simp [o3, k3] at g3
    simp [o4, k4] at g4
    simp [o5, k5] at g5
    exact ⟨v0, v1, v2, v3, v4, v5, k, _, _, _, _, _, _, rfl, g0, g1, g2, g3, g4, g5⟩
set_option maxRecDepth 100000 in
theorem open_books {H : Type} {enc : TypeId × Value → H} {w : World} {base b0' : Nat} {spare : Nat → Bool} {held : Bool} {r : Reach} {v : Value} {d : DataW H} {p : List MemPlace}
    (hv : Value.okWide Tryz.prog w r b0' 28 v) (h : DataW.Trod enc Tryz.prog w base spare held 28 v d p) : ∃ y : Ix, v = .agg #[.slice y.aa y.b.ac.length y.ca, .slice y.ai y.b.ic.length y.ci, .slice y.ab y.b.bs.length y.cb, .slice y.al y.b.ls.length y.cl, .slice y.ats y.b.ts.length y.ct, .int .i64 y.b.lot] ∧ RdI w y ∧ Fits y.b := by
  obtain ⟨cs, rfl, _⟩ := okWide_struct Tryz.underlying28 hv
  obtain ⟨fuel, hf⟩ := h
  obtain ⟨v0, v1, v2, v3, v4, v5, k, x0, x1, x2, x3, x4, x5, e, g0, g1, g2, g3, g4, g5⟩ := struct_cells (cs := cs.toList) Tryz.underlying28 (by kernel_rfl) (by simpa [Value.cells] using hf)
  obtain ⟨a0, l0, c0, rfl⟩ := slice_cell Tryz.underlying22 g0
  obtain ⟨a1, l1, c1, rfl⟩ := slice_cell Tryz.underlying23 g1
  obtain ⟨a2, l2, c2, rfl⟩ := slice_cell Tryz.underlying24 g2
  obtain ⟨a3, l3, c3, rfl⟩ := slice_cell Tryz.underlying25 g3
  obtain ⟨a4, l4, c4, rfl⟩ := slice_cell Tryz.underlying26 g4
  obtain ⟨z, q, _⟩ := DataW.trod_int Tryz.underlying3 g5
  simp at q
  subst q
  obtain ⟨p0, rfl, m0, r0⟩ := Opens.open_pairs Tryz.underlying22 Tryz.underlying89 (by kernel_rfl) Tryz.underlying3 (a := a0) (len := l0) (cap := c0) g0
  obtain ⟨p1, rfl, m1, r1⟩ := Opens.open_pairs Tryz.underlying23 Tryz.underlying91 (by kernel_rfl) Tryz.underlying3 (a := a1) (len := l1) (cap := c1) g1
  obtain ⟨p2, rfl, m2, r2⟩ := Opens3.open_triples Tryz.underlying24 Tryz.underlying93 (by kernel_rfl) Tryz.underlying3 (a := a2) (len := l2) (cap := c2) g2
  obtain ⟨p3, rfl, m3, r3⟩ := Opens5.open_rows Tryz.underlying25 Tryz.underlying95 (by kernel_rfl) Tryz.underlying3 (a := a3) (len := l3) (cap := c3) g3
  obtain ⟨p4, rfl, m4, r4⟩ := Opens8.open_rows Tryz.underlying26 Tryz.underlying97 (by kernel_rfl) Tryz.underlying3 (a := a4) (len := l4) (cap := c4) g4
  exact ⟨⟨a0, c0, a1, c1, a2, c2, a3, c3, a4, c4, ⟨p0, p1, p2, p3, p4, z⟩⟩, congrArg Value.agg (Array.ext' e), ⟨r0, r1, r2, r3, r4⟩, ⟨m0, m1, m2, m3, m4⟩⟩
end Go.Proofs.YtefcigaalgfmiaaGreat.OpensB
namespace Go.Proofs.YtefcigaalgfmiaaGreat.LawB
open Go.ChangeShapes Go.WideShapes Go.ChangeAt Go.RowKit BMem Bks BHelp BkEq
open IBalsFit (one_more)
/-- The argument, in its box. -/
structure LB (w W : World) (y : Ix) : Prop where
  r : RdI W y
  c : ClI W w.heap.size y
  b : Below w.heap.size w W
  s : w.heap.size < W.heap.size
theorem LB.start {w : World} {y : Ix} (h : RdI w y) (e : TypeId) : LB w (w.alloc (.cells #[.slice y.aa y.b.ac.length y.ca, .slice y.ai y.b.ic.length y.ci, .slice y.ab y.b.bs.length y.cb, .slice y.al y.b.ls.length y.cl, .slice y.ats y.b.ts.length y.ct, .int .i64 y.b.lot] e)) y :=
  ⟨h.below (one_more _ _), boxedI w y e, one_more _ _, by simp⟩
theorem LB.step {w W W' : World} {y : Ix} (h : LB w W y) (k : Below W.heap.size W W') : LB w W' y :=
  ⟨h.r.below k, h.c.below k h.s, h.b.trans (k.mono (Nat.le_of_lt h.s)), Nat.lt_of_lt_of_le h.s k.size⟩
/-- Behind marks on books that were made later. -/
theorem LB.turn {w W W' : World} {y : Ix} {x : Bx} (H : RdI w y) (h : LB w W y) (k : Turn x W W') (lo : Lo x (w.heap.size + 1)) : LB w W' y := by
  have kb := k.below (B := w.heap.size + 1) h.s lo
  have b := h.b.trans (kb.mono (by omega))
  exact ⟨H.below b, h.c.below kb (by omega), b, Nat.lt_of_lt_of_le h.s k.size⟩
theorem rdI_drew {w : World} {y : Ix} (h : RdI w y) : RdI w.drew y := ⟨h.ra, h.ri, h.rb, h.rl, h.rt⟩
theorem Lo.mono {x : Bx} {N M : Nat} (h : Lo x N) (hm : M ≤ N) : Lo x M := by
  unfold Lo at *
  omega
theorem Up.mono {x : Bx} {N M : Nat} (h : Up x N) (hm : N ≤ M) : Up x M := by
  unfold Up at *
  omega
/-- A variable that holds books, and nothing of it turns. -/
structure Bv (W : World) (g : Nat) (x : Bx) : Prop where
  c : Cl W g x
  l : g < W.heap.size
theorem Bv.step {W W' : World} {g : Nat} {x : Bx} (h : Bv W g x) (k : Below W.heap.size W W') : Bv W' g x := ⟨h.c.below k h.l, Nat.lt_of_lt_of_le h.l k.size⟩
theorem Bv.turn {W W' : World} {g : Nat} {x z : Bx} (h : Bv W g x) (k : Turn z W W') (ne : (∃ N, g < N ∧ Lo z N) ∨ ∃ N, N ≤ g ∧ Up z N) : Bv W' g x := by
  have e : W'.heap[g]? = W.heap[g]? := by
    refine k.block g h.l ?_ ?_ ?_ ?_ ?_
    all_goals
      rcases ne with ⟨N, a, b⟩ | ⟨N, a, b⟩
      · unfold Lo at b; omega
      · unfold Up at b; omega
  have cc : ∀ i, W'.cell? ⟨g, i, none⟩ = W.cell? ⟨g, i, none⟩ := fun i => World.cell?_of_block (w := W) (w' := W') (a := ⟨g, i, none⟩) e
  exact ⟨⟨(cc 0).trans h.c.c0, (cc 1).trans h.c.c1, (cc 2).trans h.c.c2, (cc 3).trans h.c.c3, (cc 4).trans h.c.c4, (cc 5).trans h.c.c5⟩, Nat.lt_of_lt_of_le h.l k.size⟩
theorem Bv.made {w : World} {x : Bx} (e : TypeId) {g : Nat} (hg : g = w.heap.size) : Bv (w.alloc (.cells #[.slice (some ⟨x.ga, 0, none⟩) x.b.ac.length x.ca, .slice (some ⟨x.gi, 0, none⟩) x.b.ic.length x.ci, .slice (some ⟨x.gb, 0, none⟩) x.b.bs.length x.cb, .slice (some ⟨x.gl, 0, none⟩) x.b.ls.length x.cl, .slice (some ⟨x.gt, 0, none⟩) x.b.ts.length x.ct, .int .i64 x.b.lot] e)) g x := by
  subst hg
  exact ⟨ILists.boxed w x e, by simp⟩
/-- The twelve cells of the argument and of a variable. -/
theorem cells12 {w W : World} {y : Ix} {g : Nat} {x : Bx} (h : ClI W w.heap.size y) (k : Cl W g x) : W.cell? ⟨w.heap.size, 0, none⟩ = some (.slice y.aa y.b.ac.length y.ca) ∧ W.cell? ⟨w.heap.size, 1, none⟩ = some (.slice y.ai y.b.ic.length y.ci) ∧ W.cell? ⟨w.heap.size, 2, none⟩ = some (.slice y.ab y.b.bs.length y.cb) ∧ W.cell? ⟨w.heap.size, 3, none⟩ = some (.slice y.al y.b.ls.length y.cl) ∧ W.cell? ⟨w.heap.size, 4, none⟩ = some (.slice y.ats y.b.ts.length y.ct) ∧ W.cell? ⟨w.heap.size, 5, none⟩ = some (.int .i64 y.b.lot) ∧ W.cell? ⟨g, 0, none⟩ = some (.slice (some ⟨x.ga, 0, none⟩) x.b.ac.length x.ca) ∧ W.cell? ⟨g, 1, none⟩ = some (.slice (some ⟨x.gi, 0, none⟩) x.b.ic.length x.ci) ∧ W.cell? ⟨g, 2, none⟩ = some (.slice (some ⟨x.gb, 0, none⟩) x.b.bs.length x.cb) ∧ W.cell? ⟨g, 3, none⟩ = some (.slice (some ⟨x.gl, 0, none⟩) x.b.ls.length x.cl) ∧ W.cell? ⟨g, 4, none⟩ = some (.slice (some ⟨x.gt, 0, none⟩) x.b.ts.length x.ct) ∧ W.cell? ⟨g, 5, none⟩ = some (.int .i64 x.b.lot) :=
  ⟨h.c0, h.c1, h.c2, h.c3, h.c4, h.c5, k.c0, k.c1, k.c2, k.c3, k.c4, k.c5⟩
end Go.Proofs.YtefcigaalgfmiaaGreat.LawB
namespace Go.Proofs.YtefcigaalgfmiaaGreat.ByteH
open Go.ChangeShapes Go.WideShapes Go.ChangeAt Go.RowKit
theorem hide {p : Prop} (h : p) : Hid p := h
theorem unhide {p : Prop} (h : Hid p) : p := h
theorem info8 : (Tryz.prog.info? 5).map (fun i => (i.zero, i.size, i.bytes)) = some (some (.int .u8 0), 1, 1) := by kernel_rfl
/-- The numbers of a list of the call's own: block g from its head on. -/
def At (w : World) (g : Nat) (xs : List Int) : Prop := ∀ i, i < xs.length → w.cell? ⟨g, i, none⟩ = some (.int .u8 (xs.getD i 0))
/-- A list that came in, or any other one: nothing is asked where it is empty. -/
def Reads (w : World) (a : Option Addr) (xs : List Int) : Prop :=
  xs.length = 0 ∨ ∃ b off, a = some ⟨b, off, none⟩ ∧ b < w.heap.size ∧ ∀ i, i < xs.length → w.cell? ⟨b, off + i, none⟩ = some (.int .u8 (xs.getD i 0))
/-- A list of the call's own, from block number base on. -/
def Own (w : World) (base g n cap : Nat) (xs : List Int) : Prop := w.ownsRow base 5 1 (.slice (some ⟨g, 0, none⟩) n cap) n (xs.map (Value.int .u8))
theorem Own.len {w : World} {base g n cap : Nat} {xs : List Int} (h : Own w base g n cap xs) : xs.length = n := by
  have := h.1
  simpa using this
theorem Own.lt {w : World} {base g n cap : Nat} {xs : List Int} (h : Own w base g n cap xs) : base ≤ g ∧ g < w.heap.size := World.ownsRow.lt h g rfl
theorem Own.at {w : World} {base g n cap : Nat} {xs : List Int} (h : Own w base g n cap xs) : At w g xs := by
  intro i hi
  have hl := h.len
  have := World.ownsRow.cellAt h i (by omega)
  rw [this]
  simp [List.getD, hi]
theorem Own.free {w : World} {base g n cap : Nat} {xs : List Int} (h : Own w base g n cap xs) (i : Nat) : w.frozen? ⟨g, i, none⟩ = false := World.ownsRow.frozenAt h i
theorem Own.mono {w : World} {base base' g n cap : Nat} {xs : List Int} (h : Own w base g n cap xs) (hb : base' ≤ base) : Own w base' g n cap xs := by
  refine ⟨h.1, ?_⟩
  rcases h.2 with ⟨h1, _⟩ | ⟨g', c, cur, h1, h2, h3⟩
  · simp at h1
  · exact Or.inr ⟨g', c, cur, h1, Nat.le_trans hb h2, h3⟩
/-- From another number on, where the block is not below it. -/
theorem Own.rebase {w : World} {base base' g n cap : Nat} {xs : List Int} (h : Own w base g n cap xs) (hb : base' ≤ g) : Own w base' g n cap xs := by
  refine ⟨h.1, ?_⟩
  rcases h.2 with ⟨h1, _⟩ | ⟨g', c, cur, h1, h2, h3⟩
  · simp at h1
  · obtain ⟨e, _⟩ : g = g' ∧ cap = c := by simpa using h1
    subst e
    exact Or.inr ⟨g, c, cur, h1, hb, h3⟩
theorem Own.kept {w w' : World} {base g n cap : Nat} {xs : List Int} {row : Option Nat} (h : Own w base g n cap xs) (k : w.grownBy w' row) (hne : some g ≠ row) : Own w' base g n cap xs :=
  World.ownsRow.kept h k (Or.inr hne)
theorem Own.below {w w' : World} {base g n cap B : Nat} {xs : List Int} (h : Own w base g n cap xs) (k : Below B w w') (hg : g < B) : Own w' base g n cap xs := by
  refine ⟨h.1, ?_⟩
  rcases h.2 with ⟨h1, _⟩ | ⟨g', c, cur, h1, h2, h3, h4⟩
  · simp at h1
  · obtain ⟨e, _⟩ : g = g' ∧ cap = c := by simpa using h1
    subst e
    exact Or.inr ⟨g, c, cur, h1, h2, by rw [k.block g hg]; exact h3, h4⟩
theorem At.below {w w' : World} {g B : Nat} {xs : List Int} (h : At w g xs) (k : Below B w w') (hg : g < B) : At w' g xs := fun i hi => (k.cell (p := ⟨g, i, none⟩) hg).trans (h i hi)
theorem Reads.below {w w' : World} {a : Option Addr} {xs : List Int} (h : Reads w a xs) (k : Below w.heap.size w w') : Reads w' a xs := by
  rcases h with h | ⟨b, off, rfl, hb, hc⟩
  · exact Or.inl h
  · exact Or.inr ⟨b, off, rfl, Nat.lt_of_lt_of_le hb k.size, fun i hi => (k.cell (p := ⟨b, off + i, none⟩) hb).trans (hc i hi)⟩
/-- A store into a list of the call's own. -/
theorem Own.set {w : World} {base g n cap : Nat} {xs : List Int} (h : Own w base g n cap xs) (i : Nat) (x : Int) :
    Own (w.setCell ⟨g, i, none⟩ (.int .u8 x)) base g n cap (xs.set i x) ∧ w.grownBy (w.setCell ⟨g, i, none⟩ (.int .u8 x)) (some g) := by
  have := World.ownsRow.stored h i (.int .u8 x)
  refine ⟨?_, this.2⟩
  unfold Own
  rw [List.map_set]
  exact this.1
set_option maxRecDepth 100000 in
theorem eqByteS (w : World) (g1 g2 n c1 c2 : Nat) (xs : List Int) (hl : xs.length = n) (h20 : n ≤ 100000000) (h1 : At w g1 xs) (h2 : At w g2 xs) :
    Calls Tryz.prog 9 #[.slice (some ⟨g1, 0, none⟩) n c1, .slice (some ⟨g2, 0, none⟩) n c2] w fun e w' => e = .returned (.bool true) ∧ Below w.heap.size w w' := by
  go_enter Tryz.func9, Tryz.ntmps9
  go_wp2
  go_loopw [5] (fun i wr => ∃ (k : Nat), k ≤ n ∧ i = .int .i64 k ∧ At wr g1 xs ∧ At wr g2 xs ∧ Below w.heap.size w wr) (fun i _ => n - (intOf i).toNat)
  case atStart => exact ⟨0, by omega, rfl, h1, h2, Below.refl _ _⟩
  case round =>
    clear h1 h2
    obtain ⟨k, hk, rfl, h1, h2, hb⟩ := hrel
    by_cases t : k < n
    · have e1 := h1 k (by omega)
      have e2 := h2 k (by omega)
      have H1 := hide h1
      have H2 := hide h2
      have HB := hide hb
      clear h1 h2 hb
      generalize xs.getD k 0 = z at *
      go_wp2
      go_region
      go_wp2
      go_roundw
      case rel => exact ⟨k + 1, by omega, by go_num, unhide H1, unhide H2, (unhide HB).drew⟩
      case measure => simp [intOf]; omega
    · have HB := hide hb
      clear h1 h2 hb
      go_wp2
      go_ret
      exact ⟨rfl, unhide HB⟩
/-- The marks: numbers from k on. -/
def marks (k : Int) (n : Nat) : List Int := (List.range n).map fun (i : Nat) => (k + i) % 256
theorem marks_len (k : Int) (n : Nat) : (marks k n).length = n := by simp [marks]
theorem marks_getD (k : Int) (n i : Nat) (h : i < n) : (marks k n).getD i 0 = (k + i) % 256 := by simp [marks, List.getD, h]
/-- The marks so far, and what stood behind. -/
def marked (xs : List Int) (k : Int) (n j : Nat) : List Int := (marks k n).take j ++ xs.drop j
theorem marked_zero (xs : List Int) (k : Int) (n : Nat) : marked xs k n 0 = xs := by simp [marked]
theorem marked_all (xs : List Int) (k : Int) (n : Nat) (h : xs.length = n) : marked xs k n n = marks k n := by
  unfold marked
  rw [List.take_of_length_le (by rw [marks_len]; exact Nat.le_refl _), List.drop_of_length_le (by omega), List.append_nil]
theorem marked_step (xs : List Int) (k : Int) (n j : Nat) (h : xs.length = n) (hj : j < n) : (marked xs k n j).set j ((k + j) % 256) = marked xs k n (j + 1) := by
  unfold marked
  have l := marks_len k n
  have g := marks_getD k n j hj
  have l1 : ((marks k n).take j).length = j := by simp; omega
  have l2 : ((marks k n).take (j + 1)).length = j + 1 := by simp; omega
  apply List.ext_getElem?
  intro i
  rw [List.getElem?_set]
  by_cases e : j = i
  · subst e
    rw [if_pos rfl, if_pos (by simp; omega), List.getElem?_append_left (by omega), List.getElem?_take, if_pos (by omega), ← g]
    simp [List.getD, l, hj]
  · rw [if_neg e]
    by_cases s : i < j
    · rw [List.getElem?_append_left (by omega), List.getElem?_append_left (by omega), List.getElem?_take, List.getElem?_take, if_pos s, if_pos (by omega)]
    · rw [List.getElem?_append_right (by omega), List.getElem?_append_right (by omega), l1, l2]
      simp only [List.getElem?_drop]
      congr 1
      omega
set_option maxRecDepth 100000 in
theorem markByteS (w : World) (base g n cap : Nat) (s : Int) (xs : List Int) (h20 : n ≤ 100000000) (s0 : 0 ≤ s) (s1 : s ≤ 100000000) (ho : Own w base g n cap xs) :
    Calls Tryz.prog 12 #[.slice (some ⟨g, 0, none⟩) n cap, .int .i64 s] w fun e w' => e = .returned (.int .i64 (s + (n : Int))) ∧ Own w' base g n cap (marks s n) ∧ w.grownBy w' (some g) := by
  have hl := ho.len
  have ho' : Own w base g n cap (marked xs s n 0) := by rw [marked_zero]; exact ho
  clear ho
  go_enter Tryz.func12, Tryz.ntmps12
  go_wp2
  go_loopw [1, 5] (fun m i wr => ∃ (k : Nat), k ≤ n ∧ i = .int .i64 k ∧ m = .int .i64 (s + (k : Int)) ∧ Own wr base g n cap (marked xs s n k) ∧ w.grownBy wr (some g)) (fun _ i _ => n - (intOf i).toNat)
  case atStart => exact ⟨0, by omega, rfl, by go_num, ho', World.grownBy.refl _ _⟩
  case round =>
    clear ho'
    obtain ⟨k, hk, rfl, rfl, hown, hg⟩ := hrel
    by_cases t : k < n
    · have hs := hide (Own.set hown k ((s + k) % 256))
      have hc2 := Own.at hown k (by rw [Own.len hown]; exact t)
      have hf := Own.free hown k
      have HG := hide hg
      clear hown hg
      generalize (marked xs s n k).getD k 0 = z at hc2
      go_wp2
      go_roundw
      case rel =>
        obtain ⟨o, q⟩ := unhide hs
        rw [marked_step xs s n k hl t] at o
        have G := unhide HG
        exact ⟨k + 1, by omega, by go_num, by go_num, o, q.os.trans G.os, q.tape.trans G.tape, q.output.trans G.output, Nat.le_trans G.size q.size, fun j hj hne => (q.block j (Nat.lt_of_lt_of_le hj G.size) hne).trans (G.block j hj hne)⟩
      case measure => simp [intOf]; omega
    · obtain rfl : k = n := by omega
      rw [marked_all xs s k hl] at hown
      have HO := hide hown
      have HG := hide hg
      clear hown hg
      go_wp2
      go_ret
      exact ⟨rfl, unhide HO, unhide HG⟩
end Go.Proofs.YtefcigaalgfmiaaGreat.ByteH
namespace Go.Proofs.YtefcigaalgfmiaaGreat.VOB
open Go.ChangeShapes Go.WideShapes Go.ChangeAt Go.RowKit
open ByteH (Own At marks marks_len marks_getD hide unhide)
/-- A list of the call's own, from block number base on; nil where it is empty, perhaps. -/
def Ob (w : World) (base : Nat) (a : Option Addr) (n cap : Nat) (xs : List Int) : Prop := w.ownsRow base 5 1 (.slice a n cap) n (xs.map (Value.int .u8))
theorem Ob.of {w : World} {base g n cap : Nat} {xs : List Int} (h : Own w base g n cap xs) : Ob w base (some ⟨g, 0, none⟩) n cap xs := h
theorem Ob.nil (w : World) (base : Nat) : Ob w base none 0 0 [] := World.ownsRow_nil w base _ _
section
variable {w w' : World} {base n cap : Nat} {a : Option Addr} {xs : List Int}
theorem Ob.len (h : Ob w base a n cap xs) : xs.length = n := by have := h.1; simpa using this
theorem Ob.either (h : Ob w base a n cap xs) : (a = none ∧ n = 0 ∧ xs = []) ∨ ∃ g, a = some ⟨g, 0, none⟩ ∧ Own w base g n cap xs := by
  have hl := h.len
  rcases h.2 with ⟨h1, _⟩ | ⟨g, c, cur, h1, _⟩
  · have : a = none ∧ n = 0 ∧ cap = 0 := by simpa using h1
    obtain ⟨rfl, rfl, rfl⟩ := this
    exact .inl ⟨rfl, rfl, List.eq_nil_of_length_eq_zero hl⟩
  · have : a = some ⟨g, 0, none⟩ ∧ cap = c := by simpa using h1
    obtain ⟨rfl, rfl⟩ := this
    exact .inr ⟨g, rfl, h⟩
/-- Its block lies between two numbers. -/
def Btw (lo hi : Nat) (a : Option Addr) : Prop := ∀ x, a = some x → lo ≤ x.block ∧ x.block < hi
theorem Ob.btw (h : Ob w base a n cap xs) : Btw base w.heap.size a := by
  intro x hx
  rcases h.either with ⟨rfl, _⟩ | ⟨g, rfl, o⟩
  · cases hx
  · cases hx; exact o.lt
theorem Btw.mono {lo hi lo' hi' : Nat} (h : Btw lo hi a) (h1 : lo' ≤ lo) (h2 : hi ≤ hi') : Btw lo' hi' a := fun x hx => ⟨Nat.le_trans h1 (h x hx).1, Nat.lt_of_lt_of_le (h x hx).2 h2⟩
theorem Ob.mono {base' : Nat} (h : Ob w base a n cap xs) (hb : base' ≤ base) : Ob w base' a n cap xs := by
  rcases h.either with ⟨rfl, rfl, rfl⟩ | ⟨g, rfl, o⟩
  · refine ⟨h.1, ?_⟩
    rcases h.2 with h | ⟨g, c, cur, h1, _⟩
    · exact .inl h
    · simp at h1
  · exact o.mono hb
theorem Ob.below {B : Nat} (h : Ob w base a n cap xs) (k : Below B w w') (hb : Btw 0 B a) : Ob w' base a n cap xs := by
  rcases h.either with ⟨rfl, rfl, rfl⟩ | ⟨g, rfl, o⟩
  · refine ⟨h.1, ?_⟩
    rcases h.2 with h | ⟨g, c, cur, h1, _⟩
    · exact .inl h
    · simp at h1
  · exact o.below k (hb _ rfl).2
theorem Ob.step (h : Ob w base a n cap xs) (k : Below w.heap.size w w') : Ob w' base a n cap xs := h.below k (h.btw.mono (Nat.zero_le _) (Nat.le_refl _))
theorem Ob.kept {row : Option Nat} (h : Ob w base a n cap xs) (k : w.grownBy w' row) (hr : ∀ x, a = some x → some x.block ≠ row) : Ob w' base a n cap xs := by
  rcases h.either with ⟨rfl, rfl, rfl⟩ | ⟨g, rfl, o⟩
  · refine ⟨h.1, ?_⟩
    rcases h.2 with h | ⟨g, c, cur, h1, _⟩
    · exact .inl h
    · simp at h1
  · exact o.kept k (hr _ rfl)
end
/-- What is read of it. -/
def Rd (w : World) (a : Option Addr) (xs : List Int) : Prop := xs = [] ∨ ∃ g, a = some ⟨g, 0, none⟩ ∧ g < w.heap.size ∧ At w g xs
theorem Ob.rd {w : World} {base n cap : Nat} {a : Option Addr} {xs : List Int} (h : Ob w base a n cap xs) : Rd w a xs := by
  rcases h.either with ⟨rfl, rfl, rfl⟩ | ⟨g, rfl, o⟩
  · exact .inl rfl
  · exact .inr ⟨g, rfl, o.lt.2, o.at⟩
theorem Rd.below {w w' : World} {a : Option Addr} {xs : List Int} (h : Rd w a xs) (k : Below w.heap.size w w') : Rd w' a xs := by
  rcases h with h | ⟨g, e, hl, hc⟩
  · exact .inl h
  · exact .inr ⟨g, e, Nat.lt_of_lt_of_le hl k.size, hc.below k hl⟩
set_option maxRecDepth 100000 in
theorem eqO (w : World) (a1 a2 : Option Addr) (n c1 c2 : Nat) (xs : List Int) (hl : xs.length = n) (h20 : n ≤ 100000000) (h1 : Rd w a1 xs) (h2 : Rd w a2 xs) :
    Calls Tryz.prog 9 #[.slice a1 n c1, .slice a2 n c2] w fun e w' => e = .returned (.bool true) ∧ Below w.heap.size w w' := by
  rcases h1 with rfl | ⟨g1, rfl, _, h1⟩
  case inr =>
    rcases h2 with rfl | ⟨g2, rfl, _, h2⟩
    case inr => exact ByteH.eqByteS w g1 g2 n c1 c2 xs hl h20 h1 h2
    case inl =>
      obtain rfl : n = 0 := by simpa using hl.symm
      go_enter Tryz.func9, Tryz.ntmps9
      go_wp2
      go_loopw [5] (fun i wr => i = .int .i64 0 ∧ wr = w) (fun _ _ => 0)
      case atStart => exact ⟨rfl, rfl⟩
      case round =>
        obtain ⟨rfl, rfl⟩ := hrel
        go_wp2
        go_ret
        exact ⟨rfl, Below.refl _ _⟩
  case inl =>
    obtain rfl : n = 0 := by simpa using hl.symm
    go_enter Tryz.func9, Tryz.ntmps9
    go_wp2
    go_loopw [5] (fun i wr => i = .int .i64 0 ∧ wr = w) (fun _ _ => 0)
    case atStart => exact ⟨rfl, rfl⟩
    case round =>
      obtain ⟨rfl, rfl⟩ := hrel
      go_wp2
      go_ret
      exact ⟨rfl, Below.refl _ _⟩
/-- The block of a list, if it has one. -/
def blk (a : Option Addr) : Option Nat := a.map (·.block)
theorem blk_ne {a : Option Addr} {lo hi k : Nat} (h : Btw lo hi a) (hk : k < lo ∨ hi ≤ k) : some k ≠ blk a := by
  cases a with
  | none => simp [blk]
  | some x =>
    have := h x rfl
    simp [blk]
    omega
set_option maxRecDepth 100000 in
theorem markO (w : World) (base n cap : Nat) (a : Option Addr) (xs : List Int) (h20 : n ≤ 100000000) (ho : Ob w base a n cap xs) :
    Calls Tryz.prog 12 #[.slice a n cap, .int .i64 1] w fun e w' => e = .returned (.int .i64 (1 + (n : Int))) ∧ Ob w' base a n cap (marks 1 n) ∧ w.grownBy w' (blk a) := by
  rcases ho.either with ⟨rfl, rfl, rfl⟩ | ⟨g, rfl, o⟩
  · have HO := hide ho
    clear ho
    go_enter Tryz.func12, Tryz.ntmps12
    go_wp2
    go_loopw [1, 5] (fun m i wr => m = .int .i64 1 ∧ i = .int .i64 0 ∧ wr = w) (fun _ _ _ => 0)
    case atStart => exact ⟨rfl, rfl, rfl⟩
    case round =>
      obtain ⟨rfl, rfl, rfl⟩ := hrel
      go_wp2
      go_ret
      exact ⟨rfl, unhide HO, World.grownBy.refl _ _⟩
  · exact ByteH.markByteS w base g n cap 1 xs h20 (by omega) (by omega) o
set_option maxRecDepth 100000 in
theorem heldO (w : World) (n cap : Nat) (a : Option Addr) (h20 : n ≤ 100000000) (h : Rd w a (marks 1 n)) :
    Calls Tryz.prog 13 #[.slice a n cap, .int .i64 1] w fun e w' => e = .returned (.int .i64 (1 + (n : Int))) ∧ w' = w := by
  go_enter Tryz.func13, Tryz.ntmps13
  go_wp2
  go_loop [1, 5] (fun m i => ∃ (k : Nat), k ≤ n ∧ i = .int .i64 k ∧ m = .int .i64 (1 + (k : Int))) (fun _ i => n - (intOf i).toNat)
  case atStart => exact ⟨0, by omega, rfl, by go_num⟩
  case round =>
    obtain ⟨k, hk, rfl, rfl⟩ := hrel
    by_cases t : k < n
    · rcases h with h | ⟨g, rfl, _, h⟩
      · have := congrArg List.length h
        rw [marks_len] at this
        simp at this
        omega
      have e1 := h k (by rw [marks_len]; exact t)
      rw [marks_getD 1 n k t] at e1
      clear h
      go_wp2
      go_round
      case rel => exact ⟨k + 1, by omega, by go_num, by go_num⟩
      case measure => simp [intOf]; omega
    · obtain rfl : k = n := by omega
      clear h
      go_wp2
      go_ret
      exact ⟨rfl, rfl⟩
end Go.Proofs.YtefcigaalgfmiaaGreat.VOB
namespace Go.Proofs.YtefcigaalgfmiaaGreat.Law13
open Go.ChangeShapes Go.WideShapes Go.ChangeAt Go.RowKit BMem Bks BHelp BkEq LawB
theorem LB.grown {w W W' : World} {y : Ix} {row : Option Nat} (H : RdI w y) (h : LB w W y) (k : W.grownBy W' row) (hg : ∀ j, row = some j → w.heap.size < j) : LB w W' y := by
  have b : Below w.heap.size w W' := h.b.grown k h.b.size (fun j e => by have := hg j e; omega)
  have n0 : some w.heap.size ≠ row := fun e => by have := hg _ e.symm; omega
  exact ⟨H.below b, ⟨k.cell h.c.c0 n0, k.cell h.c.c1 n0, k.cell h.c.c2 n0, k.cell h.c.c3 n0, k.cell h.c.c4 n0, k.cell h.c.c5 n0⟩, b, Nat.lt_of_lt_of_le h.s k.size⟩
theorem ow_alloc {w : World} {base : Nat} {x : Bx} (h : Ow w base x) (o : Obj) : Ow (w.alloc o) base x := h.below ((Below.refl _ _).alloc (Nat.le_refl _) o) (Nat.le_refl _)
theorem below_of_drew {w w' : World} (h : Below w.drew.heap.size w.drew w') : Below w.heap.size w w' := ⟨h.os, h.tape, h.output, h.size, h.block⟩
theorem blk_le {a : Option Addr} {lo hi : Nat} (h : VOB.Btw lo hi a) : ∀ j, VOB.blk a = some j → lo ≤ j := by
  intro j hj
  cases a with
  | none => simp [VOB.blk] at hj
  | some x =>
    have := h x rfl
    simp [VOB.blk] at hj
    omega
/-- Bytes behind marks on books in which they do not lie. -/
theorem ob_turn {W W' : World} {base n c : Nat} {a : Option Addr} {xs : List Int} {x : Bx} (h : VOB.Ob W base a n c xs) (k : Turn x W W') (ne : (∃ N, VOB.Btw 0 N a ∧ Lo x N) ∨ ∃ N, VOB.Btw N W.heap.size a ∧ Up x N) : VOB.Ob W' base a n c xs := by
  rcases h.either with ⟨rfl, rfl, rfl⟩ | ⟨g, rfl, o⟩
  · refine ⟨h.1, ?_⟩
    rcases h.2 with h | ⟨g, c', cur, h1, _⟩
    · exact .inl h
    · simp at h1
  · have l := o.lt.2
    have e : W'.heap[g]? = W.heap[g]? := by
      refine k.block g l ?_ ?_ ?_ ?_ ?_
      all_goals
        rcases ne with ⟨N, a, b⟩ | ⟨N, a, b⟩
        · have a := (a _ rfl).2
          unfold Lo at b; simp only at a; omega
        · have a := (a _ rfl).1
          unfold Up at b; simp only at a; omega
    refine ⟨o.1, ?_⟩
    rcases o.2 with ⟨h1, _⟩ | ⟨g', c', cur, h1, h2, h3, h4⟩
    · simp at h1
    · obtain ⟨e', _⟩ : g = g' ∧ c = c' := by simpa using h1
      subst e'
      exact Or.inr ⟨g, c', cur, h1, h2, by rw [e]; exact h3, h4⟩
end Go.Proofs.YtefcigaalgfmiaaGreat.Law13
namespace Go.Proofs.YtefcigaalgfmiaaGreat.SBytes
open Go.ChangeShapes Go.WideShapes Go.ChangeAt Go.RowKit
theorem hide {p : Prop} (h : p) : Hid p := h
theorem unhide {p : Prop} (h : Hid p) : p := h
/-- The bytes of a list: block g from its head on. -/
def AtB (w : World) (g : Nat) (xs : List Int) : Prop := ∀ i, i < xs.length → w.cell? ⟨g, i, none⟩ = some (.int .u8 (xs.getD i 0)) ∧ 0 ≤ xs.getD i 0 ∧ xs.getD i 0 ≤ 255
theorem AtB.below {w w' : World} {g B : Nat} {xs : List Int} (h : AtB w g xs) (k : Below B w w') (hg : g < B) : AtB w' g xs := fun i hi => ⟨(k.cell (p := ⟨g, i, none⟩) hg).trans (h i hi).1, (h i hi).2⟩
end Go.Proofs.YtefcigaalgfmiaaGreat.SBytes
namespace Go.Proofs.YtefcigaalgfmiaaGreat.SPut11
open Go.ChangeShapes Go.WideShapes Go.ChangeAt Go.RowKit SBytes
open ByteH (Own At)
theorem own_of_row {w : World} {base n n' : Nat} {v : Value} {vs : List Value} {xs : List Int} (h : w.ownsRow base 5 1 v n vs) (hn : n = n') (e : vs = xs.map (Value.int .u8)) (hv : ¬ v = .slice none 0 0) :
    ∃ g c, v = .slice (some ⟨g, 0, none⟩) n' c ∧ Own w base g n' c xs := by
  subst hn e
  have h' := h
  rcases h.2 with ⟨h1, _⟩ | ⟨g, c, cur, rfl, _⟩
  · exact absurd h1 hv
  · exact ⟨g, c, rfl, h'⟩
theorem own_alloc {w : World} {base g n cap : Nat} {xs : List Int} (h : Own w base g n cap xs) (o : Obj) : Own (w.alloc o) base g n cap xs := World.ownsRow.alloc h o
theorem lit0 (w : World) (base : Nat) {g : Nat} (hb : base ≤ w.heap.size) (hg : g = w.heap.size) : Own (w.alloc (.cells #[] 5)) base g 0 0 [] := by
  subst hg
  exact World.ownsRow_lit w #[] 0 hb (by decide) rfl
/-- Bytes that lie from a place on. -/
def AtO (w : World) (g o : Nat) (xs : List Int) : Prop := ∀ i, i < xs.length → w.cell? ⟨g, o + i, none⟩ = some (.int .u8 (xs.getD i 0))
theorem AtO.of {w : World} {g : Nat} {xs : List Int} (h : At w g xs) : AtO w g 0 xs := fun i hi => by rw [Nat.zero_add]; exact h i hi
/-- Bytes appended to bytes of the call's own. -/
theorem wp_catB (u : World) {ops : Array Oper} {rest : List Oper} {o : Oper} {a : Act} {Q : Exit → Act → World → Prop} (hgd : o.guard = none) (s x : Operand)
    (ho : o.op = .call { callee := .builtin .append, args := #[s, x], argTypes := #[30, 30] }) (base g n cap m : Nat) (xs ys : List Int) (vb off c : Nat)
    (hs : a.eval s = .slice (some ⟨g, 0, none⟩) n cap) (hx : a.eval x = .slice (some ⟨vb, off, none⟩) m c) (hown : Own u base g n cap xs) (hl : ys.length = m) (hv : AtO u vb off ys) (hn : n + m ≤ 9223372036854) (hb : base ≤ u.heap.size)
    (h : ∀ g' c' w', Own w' base g' (n + m) c' (xs ++ ys) → u.grownBy w' (some g) → (g' = g ∨ g' = u.heap.size) → wpList Tryz.prog ops Q rest (a.put o.dst (.slice (some ⟨g', 0, none⟩) (n + m) c')) w') : wpList Tryz.prog ops Q (o :: rest) a u := by
  obtain ⟨i0, hi, hz0, hz1, hz2⟩ := info_parts ByteH.info8
  refine wpList_append_own_at u hgd s x 30 ho base 5 i0 (.int .u8 0) 1 1 Tryz.underlying30 hi hz0 hz1 hz2 rfl (by decide) _ n _ hs hown ⟨vb, off, none⟩ m c (ys.map (Value.int .u8)) hx (by simp [hl]) (fun j v hj => by
    have hj' : j < ys.length := by
      have := (List.getElem?_eq_some_iff.1 hj).1
      simpa using this
    have := hv j hj'
    rw [Addr.add_lit, this]
    rw [← hj]
    simp [List.getD, hj']) (by intro u hu; obtain ⟨y, _, rfl⟩ := List.mem_map.1 hu; simp [Value.oneCell']) (by unfold maxLen; omega) (by omega) hb ?_
  intro v' w' own' gr' nil' loc'
  obtain ⟨g', c', rfl, o'⟩ := own_of_row (n' := n + m) (xs := xs ++ ys) own' rfl (by simp) (by rw [nil']; simp)
  exact h g' c' w' o' gr' (by simpa [Value.ownBlock] using loc')
theorem lit_one (w : World) (y : Int) : AtO (w.alloc (.cells #[.int .u8 y] 5)) w.heap.size 0 [y] := by
  intro i hi
  have : i = 0 := by simpa using hi
  subst this
  simp
/-- The form of a number: seven bits a byte, the lowest first. -/
def numF (x : Nat) : List Int := if 127 < x then ((x % 128 + 128 : Nat) : Int) :: numF (x / 128) else [(x : Int)]
termination_by x
theorem numF_more {x : Nat} (h : 127 < x) : numF x = ((x % 128 + 128 : Nat) : Int) :: numF (x / 128) := by rw [numF, if_pos h]
theorem numF_last {x : Nat} (h : ¬ 127 < x) : numF x = [(x : Int)] := by rw [numF, if_neg h]
theorem numF_len (n : Nat) : ∀ x : Nat, x < 128 ^ (n + 1) → (numF x).length ≤ n + 1 := by
  induction n with
  | zero => intro x h; rw [numF_last (by omega)]; simp
  | succ n ih =>
    intro x h
    by_cases t : 127 < x
    · rw [numF_more t]
      have := ih (x / 128) (by rw [Nat.pow_succ] at h; omega)
      simp
      omega
    · rw [numF_last t]; simp
/-- What PutNum answers. -/
def numB (x : Int) : List Int := if x < 0 then [] else numF x.toNat
theorem numF_nine {x : Nat} (h : x ≤ 9223372036854775807) : (numF x).length ≤ 9 := numF_len 8 x (by omega)
theorem numB_nine {x : Int} (h : x ≤ 9223372036854775807) : (numB x).length ≤ 9 := by
  unfold numB
  split
  · simp
  · exact numF_nine (by omega)
theorem one_more (w : World) (o : Obj) : Below w.heap.size w (w.alloc o) := (Below.refl _ _).alloc (Nat.le_refl _) _
set_option maxRecDepth 100000 in
set_option maxHeartbeats 4000000 in
theorem sPutNum (w : World) (x0 : Int) (hx : x0 ≤ 9223372036854775807) :
    Calls Tryz.prog 50 #[.int .i64 x0] w fun e w' => ∃ g c, e = .returned (.slice (some ⟨g, 0, none⟩) (numB x0).length c) ∧ Own w' w.heap.size g (numB x0).length c (numB x0) ∧ Below w.heap.size w w' := by
  have O0 := hide (lit0 w w.heap.size (Nat.le_refl _) rfl)
  have B0 := hide (one_more w (.cells #[] 5))
  by_cases h0 : x0 < 0
  · have e : numB x0 = [] := if_pos h0
    rw [e]
    clear e hx
    go_enter Tryz.func50, Tryz.ntmps50
    go_wp2
    go_ret
    exact ⟨w.heap.size, 0, rfl, unhide O0, unhide B0⟩
  have e : numB x0 = numF x0.toNat := if_neg h0
  rw [e]
  have L := hide (numF_nine (x := x0.toNat) (by omega))
  clear e
  obtain ⟨r, hr⟩ : ∃ r, Hid (numF x0.toNat = r) := ⟨_, rfl⟩
  rw [unhide hr] at L ⊢
  have h1 : 0 ≤ x0 := by omega
  have S0 := hide (show ([] : List Int) ++ numF x0.toNat = r from unhide hr)
  clear hr h0
  go_enter Tryz.func50, Tryz.ntmps50
  go_wp2
  go_loopw [0, 3] (fun a l wr => ∃ (x : Int) (p : List Int) (g c : Nat), a = .int .i64 x ∧ l = .slice (some ⟨g, 0, none⟩) p.length c ∧ 0 ≤ x ∧ x ≤ 9223372036854775807 ∧ Hid (p ++ numF x.toNat = r) ∧ Hid (Own wr w.heap.size g p.length c p) ∧ Hid (Below w.heap.size w wr)) (fun a _ _ => (intOf a).toNat)
  case atStart => exact ⟨x0, [], w.heap.size, 0, rfl, rfl, h1, hx, S0, O0, B0⟩
  case round =>
    clear O0 B0 S0 hx h1
    obtain ⟨x, p, g, c, rfl, rfl, x1, x2, HR, HO, HB⟩ := hrel
    have bs := (unhide HB).size
    have pl : p.length ≤ 9 := by have a := unhide L; rw [← unhide HR] at a; simp at a; omega
    have og := (unhide HO).lt
    have HX := hide (And.intro x1 x2)
    by_cases t : 127 < x
    · have N := hide (show (p ++ [x % 128 + 128]) ++ numF (x / 128).toNat = r from by
        rw [← unhide HR, numF_more (x := x.toNat) (by omega), List.append_assoc]
        have e1 : ((x.toNat % 128 + 128 : Nat) : Int) = x % 128 + 128 := by omega
        have e2 : x.toNat / 128 = (x / 128).toNat := by omega
        rw [e1, e2]; rfl)
      have E := hide (show wrap64 (x.tdiv 128) = x / 128 from by rw [Int.tdiv_eq_ediv_of_nonneg x1, wrap64]; omega)
      clear HR x1 x2
      go_wp2_with (first | (at_builtin; refine wp_catB _ rfl _ _ rfl w.heap.size g p.length c 1 p [x % 128 + 128] wr.heap.size 0 1 rfl rfl (own_alloc (unhide HO) _) rfl (lit_one _ _) (by omega) (by simp; omega) ?_) | go_in)
      intro g5 c5 w5 o5 gr5 loc5
      have O5 := hide o5
      have B5 := hide (((unhide HB).alloc (by omega) (.cells #[.int .u8 (x % 128 + 128)] 5)).grown gr5 (by simp; omega) (fun j hj => by cases hj; exact og.1))
      clear o5 gr5 loc5
      go_wp2
      go_roundw
      case rel =>
        have xx := unhide HX
        exact ⟨x / 128, p ++ [x % 128 + 128], g5, c5, congrArg (Value.int .i64) (unhide E), by rw [show (p ++ [x % 128 + 128]).length = p.length + 1 by simp], by omega, by omega, N, hide (by rw [show (p ++ [x % 128 + 128]).length = p.length + 1 by simp]; exact unhide O5), B5⟩
      case measure =>
        have xx := unhide HX
        have e := unhide E
        simp [intOf, e]
        omega
    · have N := hide (show p ++ [x] = r from by
        rw [← unhide HR, numF_last (x := x.toNat) (by omega)]
        have e1 : ((x.toNat : Nat) : Int) = x := by omega
        rw [e1])
      clear HR
      go_wp2_with (first | (at_builtin; refine wp_catB _ rfl _ _ rfl w.heap.size g p.length c 1 p [x] wr.heap.size 0 1 rfl rfl (own_alloc (unhide HO) _) rfl (lit_one _ _) (by omega) (by simp; omega) ?_) | go_in)
      intro g5 c5 w5 o5 gr5 loc5
      have O5 := hide o5
      have B5 := hide (((unhide HB).alloc (by omega) (.cells #[.int .u8 x] 5)).grown gr5 (by simp; omega) (fun j hj => by cases hj; exact og.1))
      clear o5 gr5 loc5
      go_wp2
      go_ret
      have e := unhide N
      have e1 : r.length = p.length + 1 := by rw [← e]; simp
      exact ⟨g5, c5, by rw [e1]; rfl, by rw [e1, ← e]; exact unhide O5, unhide B5⟩
end Go.Proofs.YtefcigaalgfmiaaGreat.SPut11
namespace Go.Proofs.YtefcigaalgfmiaaGreat.SPuts11
open Go.ChangeShapes Go.WideShapes Go.ChangeAt Go.RowKit SBytes SPut11
open ByteH (Own At)
/-- What PutNums answers. -/
def numsB (xs : List Int) : List Int := if ∀ i, i < xs.length → 0 ≤ xs.getD i 0 then xs.flatMap numB else []
theorem flat_next {xs : List Int} {k : Nat} (h : k < xs.length) : (xs.take (k + 1)).flatMap numB = (xs.take k).flatMap numB ++ numB (xs.getD k 0) := by
  rw [List.take_succ_eq_append_getElem h, List.flatMap_append]
  simp [List.getD, h]
theorem flat_len (xs : List Int) (h : ∀ i, i < xs.length → xs.getD i 0 ≤ 9223372036854775807) (k : Nat) (hk : k ≤ xs.length) : ((xs.take k).flatMap numB).length ≤ 9 * k := by
  induction k with
  | zero => simp
  | succ k ih =>
    rw [flat_next (by omega), List.length_append]
    have a := ih (by omega)
    have b := numB_nine (h k (by omega))
    omega
theorem numB_pos {x : Int} (h : 0 ≤ x) : numB x = numF x.toNat := if_neg (by omega)
set_option maxRecDepth 100000 in
set_option maxHeartbeats 4000000 in
theorem sPutNums (w : World) (gl cl : Nat) (xs : List Int) (h20 : xs.length ≤ 1048576) (hg : gl < w.heap.size) (hr : Ints.At w gl xs) (hi : ∀ i, i < xs.length → xs.getD i 0 ≤ 9223372036854775807) :
    Calls Tryz.prog 22 #[.slice (some ⟨gl, 0, none⟩) xs.length cl] w fun e w' => ∃ g c, e = .returned (.slice (some ⟨g, 0, none⟩) (numsB xs).length c) ∧ Own w' w.heap.size g (numsB xs).length c (numsB xs) ∧ Below w.heap.size w w' := by
  have O0 := hide (lit0 w w.heap.size (Nat.le_refl _) rfl)
  have B0 := hide (one_more w (.cells #[] 5))
  have R := hide hr
  have HI := hide hi
  have HG := hide hg
  obtain ⟨r, hq⟩ : ∃ r, Hid (numsB xs = r) := ⟨_, rfl⟩
  rw [unhide hq]
  clear hr hi hg
  go_enter Tryz.func22, Tryz.ntmps22
  go_wp2
  go_loopw [3, 4] (fun l a wr => ∃ (k g c n : Nat), a = .int .i64 k ∧ k ≤ xs.length ∧ l = .slice (some ⟨g, 0, none⟩) n c ∧ n ≤ 9 * k ∧ Hid (n = ((xs.take k).flatMap numB).length) ∧ Hid (∀ i, i < k → 0 ≤ xs.getD i 0) ∧ Hid (Own wr w.heap.size g n c ((xs.take k).flatMap numB)) ∧ Hid (Below w.heap.size w wr)) (fun _ a _ => xs.length - (intOf a).toNat)
  case atStart => exact ⟨0, w.heap.size, 0, 0, rfl, by omega, rfl, by omega, hide (by simp), hide (fun i h => absurd h (by omega)), hide (by simpa using unhide O0), B0⟩
  case round =>
    clear O0 B0
    obtain ⟨k, g, c, n, rfl, hk, rfl, nk, HN, HP, HO, HB⟩ := hrel
    have bs := (unhide HB).size
    have og := (unhide HO).lt
    by_cases t : k < xs.length
    · have d := (((unhide R).below (unhide HB) (unhide HG)) k t)
      have NX := hide (flat_next t)
      have HX := hide ((unhide HI) k t)
      have SG := hide (show 0 ≤ xs.getD k 0 → ∀ i, i < k + 1 → 0 ≤ xs.getD i 0 from fun h i hi => by
        by_cases e : i = k
        · subst e; exact h
        · exact (unhide HP) i (by omega))
      have BAD := hide (show xs.getD k 0 < 0 → r = [] from fun h => by rw [← unhide hq]; exact if_neg (fun a => by have := a k t; omega))
      clear HP
      generalize xs.getD k 0 = y at *
      have kx : (k : Int) < xs.length := by omega
      by_cases y0 : y < 0
      · have e := (unhide BAD) y0
        subst e
        have O5 := hide (lit0 wr w.heap.size bs rfl)
        have B5 := hide ((unhide HB).alloc bs (.cells #[] 5))
        clear BAD SG NX HX hq HI R
        go_wp2
        go_ret
        exact ⟨_, 0, rfl, unhide O5, unhide B5⟩
      · have S1 := hide ((unhide SG) (by omega))
        have nine := numB_nine (unhide HX)
        have xl := unhide HX
        clear BAD SG
        go_wp2_with fail
        refine (sPutNum _ y xl).mono ?_
        rintro e u ⟨g1, c1, rfl, o1, b1⟩
        have O1 := hide o1
        have B1 := hide ((unhide HB).trans (b1.mono bs))
        have HO1 := hide ((unhide HO).below b1 og.2)
        have us := b1.size
        clear o1 b1
        go_wp2_with (first | (at_builtin; refine wp_catB _ rfl _ _ rfl w.heap.size g n c (numB y).length _ (numB y) g1 0 c1 rfl rfl (unhide HO1) rfl (AtO.of (unhide O1).at) (by omega) (by omega) ?_) | go_in)
        intro g5 c5 w5 o5 gr5 loc5
        have O5 := hide o5
        have B5 := hide ((unhide B1).grown gr5 (by omega) (fun j hj => by cases hj; exact og.1))
        clear o5 gr5 loc5
        go_wp2
        go_roundw
        case rel => exact ⟨k + 1, g5, c5, n + (numB y).length, by go_num, by omega, rfl, by omega, hide (by rw [unhide NX, List.length_append, ← unhide HN]), S1, hide (by rw [unhide NX]; exact unhide O5), B5⟩
        case measure => simp [intOf]; omega
    · have e : k = xs.length := by omega
      subst e
      have E := hide (show xs.flatMap numB = r from by rw [← unhide hq]; exact (if_pos (unhide HP)).symm)
      have N := unhide HN
      have O := unhide HO
      rw [List.take_length] at N O
      rw [unhide E] at N O
      have O5 := hide O
      have N5 := hide N
      clear N O HN HO HP
      go_wp2
      go_ret
      have e := unhide N5
      subst e
      exact ⟨g, c, rfl, unhide O5, unhide HB⟩
theorem own_of_rowI {w : World} {base n n' : Nat} {v : Value} {vs : List Value} {xs : List Int} (h : w.ownsRow base 3 1 v n vs) (hn : n = n') (e : vs = xs.map (Value.int .i64)) (hv : ¬ v = .slice none 0 0) :
    ∃ g c, v = .slice (some ⟨g, 0, none⟩) n' c ∧ Ints.Own w base g n' c xs := by
  subst hn e
  have h' := h
  rcases h.2 with ⟨h1, _⟩ | ⟨g, c, cur, rfl, _⟩
  · exact absurd h1 hv
  · exact ⟨g, c, rfl, h'⟩
theorem own_allocI {w : World} {base g n cap : Nat} {xs : List Int} (h : Ints.Own w base g n cap xs) (o : Obj) : Ints.Own (w.alloc o) base g n cap xs := World.ownsRow.alloc h o
end Go.Proofs.YtefcigaalgfmiaaGreat.SPuts11
