/- Texts of one proof, one behind the other: IRead, IHave, Quieter, SOk5, ITrade, Cmp, IOk3, CmpL, IOk5, ILists, Tab, SOk3, Look, IBalsFit, AccountSOk, InstrSOk, IRead9, IIndex8, ITradesFit. -/
import Derived.Test.YteccbaohfmhnfaaGreatRows
import Derived.Test.YteccbaohfmhnfaaGreatIA1
import Derived.BigQuiet
import Derived.WalkSmall
import Derived.Deep.RegionHeld3
import Derived.Sort.Grow
import Derived.Laws.StructEq
import Derived.Maps.OwnOps
import Derived.Maps.RangeWalk
import Derived.Maps.Ext
import Derived.DeepKeys4
set_option linter.unusedVariables false
set_option linter.unusedSimpArgs false
namespace Go.Proofs.YteccbaohfmhnfaaGreat.IRead
open Go.ChangeShapes Go.WideShapes Go.ChangeAt Go.RowKit BMem Bks
open Lots (Says says_of NoOk)
theorem beq_of {t : Bool} {r k : Int} (h : Says t (r = k)) : (r == k) = t := by
  cases t
  · have := h.no
    simpa using this
  · have := h.yes
    simpa using this
set_option maxRecDepth 100000 in
theorem iHolder (w : World) (x : Bx) (no : Int) (t : Bool) (h : Rd w x) (hr : Chart.Right 20 4 x.b.ac) (ht : Says t (kindOf x.b.ac no = 1)) :
    Calls Tryz.prog 74 #[.agg #[.slice (some ⟨x.ga, 0, none⟩) x.b.ac.length x.ca, .slice (some ⟨x.gi, 0, none⟩) x.b.ic.length x.ci, .slice (some ⟨x.gb, 0, none⟩) x.b.bs.length x.cb, .slice (some ⟨x.gl, 0, none⟩) x.b.ls.length x.cl, .slice (some ⟨x.gt, 0, none⟩) x.b.ts.length x.ct, .int .i64 x.b.lot], .int .i64 no] w fun e w' => e = .returned (.bool t) ∧ Below w.heap.size w w' := by
  have H := hide h
  have R := hide hr
  have T := hide ht
  have na := h.na
  have la := h.la
  clear h hr ht
  go_enter Tryz.func74, Tryz.ntmps74
  go_wp2_with fail
  refine (AccountIKind.iKind _ x.ga _ x.ca x.b.ac no rfl na (by simp; omega) ((unhide H).alloc _).ra).mono ?_
  rintro e w1 ⟨r, hk, rfl, b1⟩
  have hd : (r == 1) = t := beq_of (by rw [kind_is (unhide R) hk]; exact unhide T)
  have B1 := hide (((Below.refl w.heap.size w).alloc (Nat.le_refl _) _).trans (b1.mono (by simp)))
  clear b1 hk
  go_wp2
  go_ret
  exact ⟨rfl, unhide B1⟩
set_option maxRecDepth 100000 in
theorem iPaper (w : World) (x : Bx) (no : Int) (t : Bool) (h : Rd w x) (hr : Chart.Right 8 2 x.b.ic) (ht : Says t (kindOf x.b.ic no = 2)) :
    Calls Tryz.prog 116 #[.agg #[.slice (some ⟨x.ga, 0, none⟩) x.b.ac.length x.ca, .slice (some ⟨x.gi, 0, none⟩) x.b.ic.length x.ci, .slice (some ⟨x.gb, 0, none⟩) x.b.bs.length x.cb, .slice (some ⟨x.gl, 0, none⟩) x.b.ls.length x.cl, .slice (some ⟨x.gt, 0, none⟩) x.b.ts.length x.ct, .int .i64 x.b.lot], .int .i64 no] w fun e w' => e = .returned (.bool t) ∧ Below w.heap.size w w' := by
  have H := hide h
  have R := hide hr
  have T := hide ht
  have na := h.ni
  have la := h.li
  clear h hr ht
  go_enter Tryz.func116, Tryz.ntmps116
  go_wp2_with fail
  refine (InstrIKind.iKind _ x.gi _ x.ci x.b.ic no rfl na (by simp; omega) ((unhide H).alloc _).ri).mono ?_
  rintro e w1 ⟨r, hk, rfl, b1⟩
  have hd : (r == 2) = t := beq_of (by rw [kind_is (unhide R) hk]; exact unhide T)
  have B1 := hide (((Below.refl w.heap.size w).alloc (Nat.le_refl _) _).trans (b1.mono (by simp)))
  clear b1 hk
  go_wp2
  go_ret
  exact ⟨rfl, unhide B1⟩
set_option maxRecDepth 100000 in
theorem iCash (w : World) (x : Bx) (no : Int) (t : Bool) (h : Rd w x) (hr : Chart.Right 8 2 x.b.ic) (ht : Says t (kindOf x.b.ic no = 1)) :
    Calls Tryz.prog 75 #[.agg #[.slice (some ⟨x.ga, 0, none⟩) x.b.ac.length x.ca, .slice (some ⟨x.gi, 0, none⟩) x.b.ic.length x.ci, .slice (some ⟨x.gb, 0, none⟩) x.b.bs.length x.cb, .slice (some ⟨x.gl, 0, none⟩) x.b.ls.length x.cl, .slice (some ⟨x.gt, 0, none⟩) x.b.ts.length x.ct, .int .i64 x.b.lot], .int .i64 no] w fun e w' => e = .returned (.bool t) ∧ Below w.heap.size w w' := by
  have H := hide h
  have R := hide hr
  have T := hide ht
  have na := h.ni
  have la := h.li
  clear h hr ht
  go_enter Tryz.func75, Tryz.ntmps75
  go_wp2_with fail
  refine (InstrIKind.iKind _ x.gi _ x.ci x.b.ic no rfl na (by simp; omega) ((unhide H).alloc _).ri).mono ?_
  rintro e w1 ⟨r, hk, rfl, b1⟩
  have hd : (r == 1) = t := beq_of (by rw [kind_is (unhide R) hk]; exact unhide T)
  have B1 := hide (((Below.refl w.heap.size w).alloc (Nat.le_refl _) _).trans (b1.mono (by simp)))
  clear b1 hk
  go_wp2
  go_ret
  exact ⟨rfl, unhide B1⟩
theorem enters {P : Program} {f : FuncId} {fn : Func} {c : Code} (hf : P.funcs[f]? = some fn) (hn : (fn.name == "runtime.NumGoroutine") = false) (hb : fn.body = some c) (args : Array Value) (w : World) :
    (callFunc f args).run P w = .ok (.enter f args) w := by
  have h1 : fn.name ≠ "runtime.NumGoroutine" := by simpa using hn
  simp [callFunc, hf, h1, hb]
/-- Where a function tells of a number: the library's IndexFunc, at a function that answers the same in every world. -/
def FirstAt (xs : List Int) (p : Int → Bool) (r : Int) : Prop := (r = -1 ∧ ∀ x ∈ xs, p x = false) ∨ (0 ≤ r ∧ ∃ x ∈ xs, p x = true)
set_option maxRecDepth 100000 in
set_option maxHeartbeats 1000000 in
theorem iIndexF (w : World) (g n cap K : Nat) (caps : Array Value) (xs : List Int) (p : Int → Bool) (hl : xs.length = n) (h20 : n ≤ 1048576) (hg : g < w.heap.size) (h : Ints.At w g xs)
    (hK : ∀ (args : Array Value) (u : World), (callFunc K args).run Tryz.prog u = .ok (.enter K args) u) (hf : ∀ (u : World) (y : Int), Below w.heap.size w u → Calls Tryz.prog K (#[.int .i64 y] ++ caps) u fun e u' => e = .returned (.bool (p y)) ∧ Below u.heap.size u u') :
    Calls Tryz.prog 98 #[.slice (some ⟨g, 0, none⟩) n cap, .func (.func K) #[] caps] w fun e w' => ∃ r, FirstAt xs p r ∧ e = .returned (.int .i64 r) ∧ Below w.heap.size w w' := by
  have H := hide h
  have HF := hide hf
  have HL := hide hl
  clear h hf hl
  go_enter Tryz.func98, Tryz.ntmps98
  go_wp2_with fail
  go_loopw [8] (fun i wr => ∃ (k : Nat), k ≤ n ∧ i = .int .i64 k ∧ (∀ j, j < k → p (xs.getD j 0) = false) ∧ Below w.heap.size w wr) (fun i _ => n - (intOf i).toNat)
  case atStart => exact ⟨0, by omega, rfl, fun j hj => by omega, Below.refl _ _⟩
  case round =>
    obtain ⟨k, hk, rfl, hn, hb⟩ := hrel
    have HB := hide hb
    have HN := hide hn
    by_cases t : k < n
    · have hc := (hb.cell (p := ⟨g, k, none⟩) hg).trans ((unhide H) k (by rw [unhide HL]; exact t))
      have hM : xs.getD k 0 ∈ xs := by
        simp [List.getD, unhide HL, t]
      have HM := hide hM
      clear hb hn hM
      generalize hy : xs.getD k 0 = y at *
      have HY := hide hy
      clear hy
      go_wp2_with fail
      refine ((unhide HF) _ y (unhide HB)).mono ?_
      rintro e w1 ⟨rfl, b1⟩
      have B1 := hide (next (unhide HB) b1)
      clear b1 hc
      cases hp : p y
      · go_wp2
        go_roundw
        case rel => exact ⟨k + 1, by omega, by go_num, fun j hj => by
          by_cases e : j = k
          · subst e; rw [unhide HY]; exact hp
          · exact (unhide HN) j (by omega), unhide B1⟩
        case measure => simp [intOf]; omega
      · go_wp2
        go_ret
        exact ⟨k, .inr ⟨by omega, y, unhide HM, hp⟩, rfl, unhide B1⟩
    · clear hb hn
      have hkn : k = n := by omega
      have E0 := hide (show ∀ x ∈ xs, p x = false from fun x hx => by
        obtain ⟨j, hj, rfl⟩ := List.getElem_of_mem hx
        have := (unhide HN) j (by rw [unhide HL] at hj; omega)
        simpa [List.getD, hj] using this)
      clear hkn
      go_wp2
      go_ret
      exact ⟨-1, .inl ⟨rfl, unhide E0⟩, rfl, unhide HB⟩
set_option maxRecDepth 100000 in
theorem iContainsF (w : World) (g n cap K : Nat) (caps : Array Value) (xs : List Int) (p : Int → Bool) (b : Bool) (hl : xs.length = n) (h20 : n ≤ 1048576) (hg : g < w.heap.size) (h : Ints.At w g xs)
    (hK : ∀ (args : Array Value) (u : World), (callFunc K args).run Tryz.prog u = .ok (.enter K args) u) (hf : ∀ (u : World) (y : Int), Below w.heap.size w u → Calls Tryz.prog K (#[.int .i64 y] ++ caps) u fun e u' => e = .returned (.bool (p y)) ∧ Below u.heap.size u u') (hb : Says b (∃ x ∈ xs, p x = true)) :
    Calls Tryz.prog 66 #[.slice (some ⟨g, 0, none⟩) n cap, .func (.func K) #[] caps] w fun e w' => e = .returned (.bool b) ∧ Below w.heap.size w w' := by
  have H := hide h
  have HF := hide hf
  have HL := hide hl
  have T := hide hb
  clear h hf hl hb
  go_enter Tryz.func66, Tryz.ntmps66
  go_wp2_with fail
  refine (iIndexF _ g n cap K caps xs p (unhide HL) h20 hg (unhide H) hK (unhide HF)).mono ?_
  rintro e w1 ⟨r, hr, rfl, b1⟩
  have B1 := hide b1
  have hd : decide (0 ≤ r) = b := by
    rcases hr with ⟨rfl, hr⟩ | ⟨h0, hr⟩
    · rw [(unhide T).not (fun ⟨x, hx, e⟩ => by rw [hr x hx] at e; cases e)]; rfl
    · rw [(unhide T).of hr]; exact decide_eq_true h0
  clear b1 hr
  go_wp2
  go_ret
  exact ⟨rfl, unhide B1⟩
end Go.Proofs.YteccbaohfmhnfaaGreat.IRead
namespace Go.Proofs.YteccbaohfmhnfaaGreat.IHave
open Go.ChangeShapes Go.WideShapes Go.ChangeAt Go.RowKit BMem Bks IRead
open Lots (Says says_of NoOk)
/-- A number that is out of its range. -/
def outB (y : Int) : Bool := decide (y < 1 ∨ y > 1000)
theorem none_of {xs : List Int} {p : Int → Bool} {q : Int → Prop} {b : Bool} (hq : ∀ y, p y = false ↔ q y) (hb : Says b (∀ x ∈ xs, q x)) : Says (!b) (∃ x ∈ xs, p x = true) := by
  cases b
  · refine ⟨fun _ => ?_, fun _ => rfl⟩
    have := hb.no
    refine Classical.byContradiction fun hn => this fun x hx => (hq x).1 ?_
    cases h : p x
    · rfl
    · exact absurd ⟨x, hx, h⟩ hn
  · refine ⟨fun e => Bool.noConfusion e, fun ⟨x, hx, e⟩ => ?_⟩
    have := (hq x).2 (hb.yes x hx)
    rw [this] at e
    cases e
theorem out_no (y : Int) : outB y = false ↔ NoOk y := by
  unfold outB NoOk
  rw [decide_eq_false_iff_not]
  omega
set_option maxRecDepth 100000 in
theorem iOut (w : World) (y : Int) : Calls Tryz.prog 67 (#[.int .i64 y] ++ #[]) w fun e w' => e = .returned (.bool (outB y)) ∧ Below w.heap.size w w' := by
  show Calls Tryz.prog 67 #[.int .i64 y] w _
  by_cases a : y < 1
  · have hz : outB y = true := decide_eq_true (.inl a)
    rw [hz]
    go_enter Tryz.func67, Tryz.ntmps67
    go_wp2
    go_ret
    exact ⟨rfl, Below.refl _ _⟩
  · by_cases b : y > 1000
    · have hz : outB y = true := decide_eq_true (.inr b)
      rw [hz]
      go_enter Tryz.func67, Tryz.ntmps67
      go_wp2
      go_ret
      exact ⟨rfl, Below.refl _ _⟩
    · have hz : outB y = false := decide_eq_false (fun h => h.elim a b)
      rw [hz]
      go_enter Tryz.func67, Tryz.ntmps67
      go_wp2
      go_ret
      exact ⟨rfl, Below.refl _ _⟩
set_option maxRecDepth 100000 in
theorem iNumbers (w : World) (g n cap : Nat) (xs : List Int) (b : Bool) (hl : xs.length = n) (h20 : n ≤ 1048576) (hg : g < w.heap.size) (h : Ints.At w g xs) (hb : Says b (∀ x ∈ xs, NoOk x)) :
    Calls Tryz.prog 30 #[.slice (some ⟨g, 0, none⟩) n cap] w fun e w' => e = .returned (.bool b) ∧ Below w.heap.size w w' := by
  have H := hide h
  have HL := hide hl
  have T := hide (none_of out_no hb)
  clear h hl hb
  go_enter Tryz.func30, Tryz.ntmps30
  go_wp2_with fail
  refine (iContainsF _ g n cap 67 #[] xs outB (!b) (unhide HL) h20 hg (unhide H) (fun _ _ => enters Tryz.func67 (by kernel_rfl) rfl _ _) (fun u y _ => iOut u y) (unhide T)).mono ?_
  rintro e w1 ⟨rfl, b1⟩
  have B1 := hide b1
  clear b1
  go_wp2
  go_ret
  exact ⟨by simp, unhide B1⟩
set_option maxRecDepth 100000 in
theorem iFrom (lo x : Int) (b : Bool) (w : World) (hb : Says b (lo ≤ x ∧ x ≤ 1000000000000000)) : Calls Tryz.prog 31 #[.int .i64 lo, .int .i64 x] w fun e w' => e = .returned (.bool b) ∧ w' = w := by
  by_cases h1 : lo ≤ x
  · by_cases h2 : x ≤ 1000000000000000
    · obtain rfl : b = true := hb.of ⟨h1, h2⟩
      clear hb
      go_enter Tryz.func31, Tryz.ntmps31
      go_wp2
      go_ret
      exact ⟨rfl, rfl⟩
    · obtain rfl : b = false := hb.not (fun h => h2 h.2)
      clear hb
      go_enter Tryz.func31, Tryz.ntmps31
      go_wp2
      go_ret
      exact ⟨rfl, rfl⟩
  · obtain rfl : b = false := hb.not (fun h => h1 h.1)
    clear hb
    go_enter Tryz.func31, Tryz.ntmps31
    go_wp2
    go_ret
    exact ⟨rfl, rfl⟩
/-- A number of which there is none. -/
def noneB (ps : List (Int × Int)) (y : Int) : Bool := kindOf ps y == 0
theorem none_no (ps : List (Int × Int)) (y : Int) : noneB ps y = false ↔ kindOf ps y ≠ 0 := by
  unfold noneB
  simp
set_option maxRecDepth 100000 in
theorem iNoneAccount (w : World) (x : Bx) (g : Nat) (y : Int) (h : Rd w x) (hc : w.cell? ⟨g, 0, none⟩ = some (.slice (some ⟨x.ga, 0, none⟩) x.b.ac.length x.ca)) (hr : Chart.Right 20 4 x.b.ac) :
    Calls Tryz.prog 103 (#[.int .i64 y] ++ #[.pointer (some ⟨g, 0, none⟩)]) w fun e w' => e = .returned (.bool (noneB x.b.ac y)) ∧ Below w.heap.size w w' := by
  show Calls Tryz.prog 103 #[.int .i64 y, .pointer (some ⟨g, 0, none⟩)] w _
  have H := hide h
  have R := hide hr
  have na := h.na
  have la := h.la
  clear h hr
  go_enter Tryz.func103, Tryz.ntmps103
  go_wp2_with fail
  refine (AccountIKind.iKind _ x.ga _ x.ca x.b.ac y rfl na la (unhide H).ra).mono ?_
  rintro e w1 ⟨r, hk, rfl, b1⟩
  have hd : (r == 0) = noneB x.b.ac y := by rw [kind_is (unhide R) hk]; rfl
  have B1 := hide b1
  clear b1 hk
  go_wp2
  go_ret
  exact ⟨rfl, unhide B1⟩
set_option maxRecDepth 100000 in
theorem iHaveAccounts (w : World) (x : Bx) (g n cap : Nat) (xs : List Int) (b : Bool) (h : Rd w x) (hr : Chart.Right 20 4 x.b.ac) (hl : xs.length = n) (h20 : n ≤ 1048576) (hg : g < w.heap.size) (hx : Ints.At w g xs) (hb : Says b (∀ y ∈ xs, kindOf x.b.ac y ≠ 0)) :
    Calls Tryz.prog 71 #[.agg #[.slice (some ⟨x.ga, 0, none⟩) x.b.ac.length x.ca, .slice (some ⟨x.gi, 0, none⟩) x.b.ic.length x.ci, .slice (some ⟨x.gb, 0, none⟩) x.b.bs.length x.cb, .slice (some ⟨x.gl, 0, none⟩) x.b.ls.length x.cl, .slice (some ⟨x.gt, 0, none⟩) x.b.ts.length x.ct, .int .i64 x.b.lot], .slice (some ⟨g, 0, none⟩) n cap] w fun e w' => e = .returned (.bool b) ∧ Below w.heap.size w w' := by
  have H := hide h
  have R := hide hr
  have X := hide hx
  have HL := hide hl
  have T := hide (none_of (none_no x.b.ac) hb)
  have hmf : ∀ (fn : Fn) (first cp : Array Value) (w : World), (Instr.makeFunc fn first cp).run Tryz.prog w = .ok (.func fn first cp) w := fun _ _ _ _ => rfl
  clear h hr hx hl hb
  go_enter Tryz.func71, Tryz.ntmps71
  go_wp2_with fail
  have A1 : Below w.heap.size w (w.alloc (.cells #[.slice (some ⟨x.ga, 0, none⟩) x.b.ac.length x.ca, .slice (some ⟨x.gi, 0, none⟩) x.b.ic.length x.ci, .slice (some ⟨x.gb, 0, none⟩) x.b.bs.length x.cb, .slice (some ⟨x.gl, 0, none⟩) x.b.ls.length x.cl, .slice (some ⟨x.gt, 0, none⟩) x.b.ts.length x.ct, .int .i64 x.b.lot] 36)) := (Below.refl _ _).alloc (Nat.le_refl _) _
  refine (iContainsF _ g n cap 103 #[.pointer (some ⟨w.heap.size, 0, none⟩)] xs (noneB x.b.ac) (!b) (unhide HL) h20 (by simp; omega) ((unhide X).below A1 hg) (fun _ _ => enters Tryz.func103 (by kernel_rfl) rfl _ _) (fun u y hu => iNoneAccount u x w.heap.size y (((unhide H).below A1).below hu) ((hu.cell (p := ⟨w.heap.size, 0, none⟩) (by simp)).trans (by simp)) (unhide R)) (unhide T)).mono ?_
  rintro e w1 ⟨rfl, b1⟩
  have B1 := hide (A1.trans (b1.mono (by simp)))
  clear b1 A1
  go_wp2
  go_ret
  exact ⟨by simp, unhide B1⟩
set_option maxRecDepth 100000 in
theorem iNoneInstr (w : World) (x : Bx) (g : Nat) (y : Int) (h : Rd w x) (hc : w.cell? ⟨g, 1, none⟩ = some (.slice (some ⟨x.gi, 0, none⟩) x.b.ic.length x.ci)) (hr : Chart.Right 8 2 x.b.ic) :
    Calls Tryz.prog 105 (#[.int .i64 y] ++ #[.pointer (some ⟨g, 0, none⟩)]) w fun e w' => e = .returned (.bool (noneB x.b.ic y)) ∧ Below w.heap.size w w' := by
  show Calls Tryz.prog 105 #[.int .i64 y, .pointer (some ⟨g, 0, none⟩)] w _
  have H := hide h
  have R := hide hr
  have na := h.ni
  have la := h.li
  clear h hr
  go_enter Tryz.func105, Tryz.ntmps105
  go_wp2_with fail
  refine (InstrIKind.iKind _ x.gi _ x.ci x.b.ic y rfl na la (unhide H).ri).mono ?_
  rintro e w1 ⟨r, hk, rfl, b1⟩
  have hd : (r == 0) = noneB x.b.ic y := by rw [kind_is (unhide R) hk]; rfl
  have B1 := hide b1
  clear b1 hk
  go_wp2
  go_ret
  exact ⟨rfl, unhide B1⟩
set_option maxRecDepth 100000 in
theorem iHaveInstrs (w : World) (x : Bx) (g n cap : Nat) (xs : List Int) (b : Bool) (h : Rd w x) (hr : Chart.Right 8 2 x.b.ic) (hl : xs.length = n) (h20 : n ≤ 1048576) (hg : g < w.heap.size) (hx : Ints.At w g xs) (hb : Says b (∀ y ∈ xs, kindOf x.b.ic y ≠ 0)) :
    Calls Tryz.prog 72 #[.agg #[.slice (some ⟨x.ga, 0, none⟩) x.b.ac.length x.ca, .slice (some ⟨x.gi, 0, none⟩) x.b.ic.length x.ci, .slice (some ⟨x.gb, 0, none⟩) x.b.bs.length x.cb, .slice (some ⟨x.gl, 0, none⟩) x.b.ls.length x.cl, .slice (some ⟨x.gt, 0, none⟩) x.b.ts.length x.ct, .int .i64 x.b.lot], .slice (some ⟨g, 0, none⟩) n cap] w fun e w' => e = .returned (.bool b) ∧ Below w.heap.size w w' := by
  have H := hide h
  have R := hide hr
  have X := hide hx
  have HL := hide hl
  have T := hide (none_of (none_no x.b.ic) hb)
  have hmf : ∀ (fn : Fn) (first cp : Array Value) (w : World), (Instr.makeFunc fn first cp).run Tryz.prog w = .ok (.func fn first cp) w := fun _ _ _ _ => rfl
  clear h hr hx hl hb
  go_enter Tryz.func72, Tryz.ntmps72
  go_wp2_with fail
  have A1 : Below w.heap.size w (w.alloc (.cells #[.slice (some ⟨x.ga, 0, none⟩) x.b.ac.length x.ca, .slice (some ⟨x.gi, 0, none⟩) x.b.ic.length x.ci, .slice (some ⟨x.gb, 0, none⟩) x.b.bs.length x.cb, .slice (some ⟨x.gl, 0, none⟩) x.b.ls.length x.cl, .slice (some ⟨x.gt, 0, none⟩) x.b.ts.length x.ct, .int .i64 x.b.lot] 36)) := (Below.refl _ _).alloc (Nat.le_refl _) _
  refine (iContainsF _ g n cap 105 #[.pointer (some ⟨w.heap.size, 0, none⟩)] xs (noneB x.b.ic) (!b) (unhide HL) h20 (by simp; omega) ((unhide X).below A1 hg) (fun _ _ => enters Tryz.func105 (by kernel_rfl) rfl _ _) (fun u y hu => iNoneInstr u x w.heap.size y (((unhide H).below A1).below hu) ((hu.cell (p := ⟨w.heap.size, 1, none⟩) (by simp)).trans (by simp)) (unhide R)) (unhide T)).mono ?_
  rintro e w1 ⟨rfl, b1⟩
  have B1 := hide (A1.trans (b1.mono (by simp)))
  clear b1 A1
  go_wp2
  go_ret
  exact ⟨by simp, unhide B1⟩
end Go.Proofs.YteccbaohfmhnfaaGreat.IHave
namespace Go.Proofs.YteccbaohfmhnfaaGreat.Quieter
open Go.ChangeShapes Go.WideShapes Go.ChangeAt Go.RowKit Tup5
/-- A world in which all that was there in w is as it was. -/
structure Near (w : World) where
  u : World
  b : Below w.heap.size w u
theorem near_is (w : World) : Nonempty (Near w) := ⟨⟨w, Below.refl _ _⟩⟩
theorem quiet_near {P : Program} {id : Nat} {Q : Exit → Act → World → Prop} {a : Act} {w : World} {l : List Oper} (hm : P.follows .mixedOrders = true) (hB : Region.lexB .any l.toArray = true)
    (h : wpQuiet P l.toArray (fun w' => ∃ n : Near w, w' = n.u) (fun a' => ∀ w', (∃ n : Near w, w' = n.u) → Q .normal a' w') l a) : (Code.region id l.toArray true).wp P Q a w :=
  wp_region_quiet (C := fun w' => ∃ n : Near w, w' = n.u) hm hB ⟨⟨w.drew, Below.drew (Below.refl _ _)⟩, rfl⟩ h
end Go.Proofs.YteccbaohfmhnfaaGreat.Quieter
namespace Go.Proofs.YteccbaohfmhnfaaGreat.SOk5
open Go.ChangeShapes Go.WideShapes Go.ChangeAt Go.RowKit Tup5 Lots Quieter
theorem sIn (x lo hi : Int) (b : Bool) (w : World) (hb : Says b (lo ≤ x ∧ x ≤ hi)) :
    Calls Tryz.prog 55 #[.int .i64 x, .int .i64 lo, .int .i64 hi] w fun e w' => e = .returned (.bool b) ∧ w' = w := by
  by_cases h1 : lo ≤ x
  · by_cases h2 : x ≤ hi
    · obtain rfl : b = true := hb.of ⟨h1, h2⟩
      clear hb
      go_enter Tryz.func55, Tryz.ntmps55
      go_wp2
      go_ret
      exact ⟨rfl, rfl⟩
    · obtain rfl : b = false := hb.not (fun r => h2 r.2)
      clear hb
      go_enter Tryz.func55, Tryz.ntmps55
      go_wp2
      go_ret
      exact ⟨rfl, rfl⟩
  · obtain rfl : b = false := hb.not (fun r => h1 r.1)
    clear hb
    go_enter Tryz.func55, Tryz.ntmps55
    go_wp2
    go_ret
    exact ⟨rfl, rfl⟩
theorem sNo (x : Int) (b : Bool) (w : World) (hb : Says b (NoOk x)) :
    Calls Tryz.prog 17 #[.int .i64 x] w fun e w' => e = .returned (.bool b) ∧ w' = w := by
  go_enter Tryz.func17, Tryz.ntmps17
  go_wp2_with fail
  refine (sIn x 1 1000 b _ hb).mono ?_
  rintro e w' ⟨rfl, rfl⟩
  go_wp2
  go_ret
  exact ⟨rfl, rfl⟩
theorem sAmt (x : Int) (b : Bool) (w : World) (hb : Says b (Amt x)) :
    Calls Tryz.prog 84 #[.int .i64 x] w fun e w' => e = .returned (.bool b) ∧ w' = w := by
  go_enter Tryz.func84, Tryz.ntmps84
  go_wp2_with fail
  refine (sIn x (-1000000000000000) 1000000000000000 b _ hb).mono ?_
  rintro e w' ⟨rfl, rfl⟩
  go_wp2
  go_ret
  exact ⟨rfl, rfl⟩
theorem sBefore (a i c j : Int) (b : Bool) (w : World) (hb : Says b (a < c ∨ (a = c ∧ i < j))) :
    Calls Tryz.prog 85 #[.int .i64 a, .int .i64 i, .int .i64 c, .int .i64 j] w fun e w' => e = .returned (.bool b) ∧ w' = w := by
  by_cases h1 : a < c
  · obtain rfl : b = true := hb.of (.inl h1)
    clear hb
    go_enter Tryz.func85, Tryz.ntmps85
    go_wp2
    go_ret
    exact ⟨rfl, rfl⟩
  · by_cases h2 : a = c
    · subst h2
      by_cases h3 : i < j
      · obtain rfl : b = true := hb.of (.inr ⟨rfl, h3⟩)
        clear hb
        go_enter Tryz.func85, Tryz.ntmps85
        go_wp2
        go_ret
        exact ⟨rfl, rfl⟩
      · obtain rfl : b = false := hb.not (fun r => by omega)
        clear hb
        go_enter Tryz.func85, Tryz.ntmps85
        go_wp2
        go_ret
        exact ⟨rfl, rfl⟩
    · obtain rfl : b = false := hb.not (fun r => by omega)
      clear hb
      go_enter Tryz.func85, Tryz.ntmps85
      go_wp2
      go_ret
      exact ⟨rfl, rfl⟩
theorem sSome (x lo : Int) (b : Bool) (w : World) (hb : Says b (lo ≤ x ∧ x ≤ 1000000000000000)) :
    Calls Tryz.prog 18 #[.int .i64 x, .int .i64 lo] w fun e w' => e = .returned (.bool b) ∧ w' = w := by
  go_enter Tryz.func18, Tryz.ntmps18
  go_wp2_with fail
  refine (sIn x lo 1000000000000000 b _ hb).mono ?_
  rintro e w' ⟨rfl, rfl⟩
  go_wp2
  go_ret
  exact ⟨rfl, rfl⟩
theorem one_more (w : World) (o : Obj) : Below w.heap.size w (w.alloc o) := (Below.refl _ _).alloc (Nat.le_refl _) _
theorem two_more (w : World) (o p : Obj) : Below w.heap.size w ((w.alloc o).alloc p) := ((Below.refl _ _).alloc (Nat.le_refl _) _).alloc (by simp) _
set_option maxRecDepth 100000 in
set_option maxHeartbeats 4000000 in
theorem sRight (x0 x1 x2 x3 x4 : Int) (b : Bool) (w : World) (hb : Says b (One (x0, x1, x2, x3, x4))) :
    Calls Tryz.prog 86 #[.agg #[.int .i64 x0, .int .i64 x1, .int .i64 x2, .int .i64 x3, .int .i64 x4]] w fun e w' => e = .returned (.bool b) ∧ Below w.heap.size w w' := by
  obtain ⟨b1, B1⟩ := says_of (NoOk x0)
  obtain ⟨b2, B2⟩ := says_of (NoOk x1)
  obtain ⟨b3, B3⟩ := says_of (1 ≤ x2 ∧ x2 ≤ 1000000000)
  obtain ⟨b4, B4⟩ := says_of (1 ≤ x3 ∧ x3 ≤ 1000000000000000)
  obtain ⟨b5, B5⟩ := says_of (0 ≤ x4 ∧ x4 ≤ 1000000000000000)
  have NB := hide (one_more w (.cells #[.int .i64 x0, .int .i64 x1, .int .i64 x2, .int .i64 x3, .int .i64 x4] 97))
  cases b1
  · obtain rfl : b = false := hb.not (fun r => B1.no r.1)
    clear hb
    go_enter Tryz.func86, Tryz.ntmps86
    go_wp2_with (first | (go_at_call 17; refine (sNo _ false _ B1).mono ?_; rintro e w1 ⟨rfl, rfl⟩))
    go_ret
    first | exact ⟨rfl, unhide NB⟩ | exact ⟨by rw [decide_eq_false (show ¬ x2 < y2 by omega)]; rfl, unhide NB⟩
  cases b2
  · obtain rfl : b = false := hb.not (fun r => B2.no r.2.1)
    clear hb
    go_enter Tryz.func86, Tryz.ntmps86
    go_wp2_with (first | (go_at_call 17; refine (sNo _ true _ B1).mono ?_; rintro e w1 ⟨rfl, rfl⟩) | (go_at_call 17; refine (sNo _ false _ B2).mono ?_; rintro e w1 ⟨rfl, rfl⟩))
    go_ret
    first | exact ⟨rfl, unhide NB⟩ | exact ⟨by rw [decide_eq_false (show ¬ x2 < y2 by omega)]; rfl, unhide NB⟩
  cases b3
  · obtain rfl : b = false := hb.not (fun r => B3.no r.2.2.1)
    clear hb
    go_enter Tryz.func86, Tryz.ntmps86
    go_wp2_with (first | (go_at_call 17; refine (sNo _ true _ B1).mono ?_; rintro e w1 ⟨rfl, rfl⟩) | (go_at_call 17; refine (sNo _ true _ B2).mono ?_; rintro e w1 ⟨rfl, rfl⟩) | (go_at_call 55; refine (sIn _ _ _ false _ B3).mono ?_; rintro e w1 ⟨rfl, rfl⟩))
    go_ret
    first | exact ⟨rfl, unhide NB⟩ | exact ⟨by rw [decide_eq_false (show ¬ x2 < y2 by omega)]; rfl, unhide NB⟩
  cases b4
  · obtain rfl : b = false := hb.not (fun r => B4.no r.2.2.2.1)
    clear hb
    go_enter Tryz.func86, Tryz.ntmps86
    go_wp2_with (first | (go_at_call 17; refine (sNo _ true _ B1).mono ?_; rintro e w1 ⟨rfl, rfl⟩) | (go_at_call 17; refine (sNo _ true _ B2).mono ?_; rintro e w1 ⟨rfl, rfl⟩) | (go_at_call 55; refine (sIn _ _ _ true _ B3).mono ?_; rintro e w1 ⟨rfl, rfl⟩) | (go_at_call 18; refine (sSome _ _ false _ B4).mono ?_; rintro e w1 ⟨rfl, rfl⟩))
    go_ret
    first | exact ⟨rfl, unhide NB⟩ | exact ⟨by rw [decide_eq_false (show ¬ x2 < y2 by omega)]; rfl, unhide NB⟩
  obtain rfl : b5 = b := by
    cases b5
    · exact (hb.not (fun r => B5.no r.2.2.2.2)).symm
    · exact (hb.of ⟨B1.yes, B2.yes, B3.yes, B4.yes, B5.yes⟩).symm
  clear hb
  go_enter Tryz.func86, Tryz.ntmps86
  go_wp2_with (first | (go_at_call 17; refine (sNo _ true _ B1).mono ?_; rintro e w1 ⟨rfl, rfl⟩) | (go_at_call 17; refine (sNo _ true _ B2).mono ?_; rintro e w1 ⟨rfl, rfl⟩) | (go_at_call 55; refine (sIn _ _ _ true _ B3).mono ?_; rintro e w1 ⟨rfl, rfl⟩) | (go_at_call 18; refine (sSome _ _ true _ B4).mono ?_; rintro e w1 ⟨rfl, rfl⟩) | (go_at_call 18; refine (sSome _ _ _ _ B5).mono ?_; rintro e w1 ⟨rfl, rfl⟩))
  go_ret
  first | exact ⟨rfl, unhide NB⟩ | exact ⟨by rw [decide_eq_false (show ¬ x2 < y2 by omega)]; rfl, unhide NB⟩
set_option maxRecDepth 100000 in
set_option maxHeartbeats 4000000 in
theorem sBef (x0 x1 x2 x3 x4 y0 y1 y2 y3 y4 : Int) (b : Bool) (w : World) (hb : Says b (Bef (x0, x1, x2, x3, x4) (y0, y1, y2, y3, y4))) :
    Calls Tryz.prog 87 #[.agg #[.int .i64 x0, .int .i64 x1, .int .i64 x2, .int .i64 x3, .int .i64 x4], .agg #[.int .i64 y0, .int .i64 y1, .int .i64 y2, .int .i64 y3, .int .i64 y4]] w fun e w' => e = .returned (.bool b) ∧ Below w.heap.size w w' := by
  obtain ⟨b1, B1⟩ := says_of (x0 < y0 ∨ (x0 = y0 ∧ x1 < y1))
  have NB := hide (two_more w (.cells #[.int .i64 x0, .int .i64 x1, .int .i64 x2, .int .i64 x3, .int .i64 x4] 97) (.cells #[.int .i64 y0, .int .i64 y1, .int .i64 y2, .int .i64 y3, .int .i64 y4] 97))
  have BB : b = true ↔ (x0 < y0 ∨ (x0 = y0 ∧ (x1 < y1 ∨ (x1 = y1 ∧ x2 < y2)))) := hb
  clear hb
  cases b1
  · have n1 := B1.no
    by_cases e0 : x0 = y0
    · subst e0
      by_cases e1 : x1 = y1
      · subst e1
        by_cases l2 : x2 < y2
        · skip
          obtain rfl : b = true := BB.2 (by omega)
          clear BB n1
          go_enter Tryz.func87, Tryz.ntmps87
          go_wp2_with (go_at_call 85; refine (sBefore _ _ _ _ false _ B1).mono ?_; rintro e w1 ⟨rfl, rfl⟩)
          go_ret
          first | exact ⟨rfl, unhide NB⟩ | exact ⟨by rw [decide_eq_false (show ¬ x2 < y2 by omega)]; rfl, unhide NB⟩
        · skip
          obtain rfl : b = false := by
            cases b
            · rfl
            · have := BB.1 rfl
              omega
          clear BB n1
          go_enter Tryz.func87, Tryz.ntmps87
          go_wp2_with (go_at_call 85; refine (sBefore _ _ _ _ false _ B1).mono ?_; rintro e w1 ⟨rfl, rfl⟩)
          go_ret
          first | exact ⟨rfl, unhide NB⟩ | exact ⟨by rw [decide_eq_false (show ¬ x2 < y2 by omega)]; rfl, unhide NB⟩
      · skip
        obtain rfl : b = false := by
          cases b
          · rfl
          · have := BB.1 rfl
            omega
        clear BB n1
        go_enter Tryz.func87, Tryz.ntmps87
        go_wp2_with (go_at_call 85; refine (sBefore _ _ _ _ false _ B1).mono ?_; rintro e w1 ⟨rfl, rfl⟩)
        go_ret
        first | exact ⟨rfl, unhide NB⟩ | exact ⟨by rw [decide_eq_false (show ¬ x2 < y2 by omega)]; rfl, unhide NB⟩
    · skip
      obtain rfl : b = false := by
        cases b
        · rfl
        · have := BB.1 rfl
          omega
      clear BB n1
      go_enter Tryz.func87, Tryz.ntmps87
      go_wp2_with (go_at_call 85; refine (sBefore _ _ _ _ false _ B1).mono ?_; rintro e w1 ⟨rfl, rfl⟩)
      go_ret
      first | exact ⟨rfl, unhide NB⟩ | exact ⟨by rw [decide_eq_false (show ¬ x2 < y2 by omega)]; rfl, unhide NB⟩
  · have n1 := B1.yes
    obtain rfl : b = true := BB.2 (by omega)
    clear BB n1
    go_enter Tryz.func87, Tryz.ntmps87
    go_wp2_with (go_at_call 85; refine (sBefore _ _ _ _ true _ B1).mono ?_; rintro e w1 ⟨rfl, rfl⟩)
    go_ret
    first | exact ⟨rfl, unhide NB⟩ | exact ⟨by rw [decide_eq_false (show ¬ x2 < y2 by omega)]; rfl, unhide NB⟩
set_option maxRecDepth 100000 in
set_option maxHeartbeats 4000000 in
theorem sOk (w : World) (g n cap : Nat) (ps : List T5) (ok : Bool) (hl : ps.length = n) (h20 : n ≤ 1048576) (hg : g < w.heap.size) (h : At5 w g ps) (hok : Says ok (Right ps)) :
    Calls Tryz.prog 53 #[.slice (some ⟨g, 0, none⟩) n cap] w fun e w' => e = .returned (.bool ok) ∧ Below w.heap.size w w' := by
  by_cases nn : (120 : Int) < (n : Int)
  · obtain rfl : ok = false := hok.not (fun r => by have := r.1; omega)
    clear hok h
    go_enter Tryz.func53, Tryz.ntmps53
    go_wp2
    go_ret
    exact ⟨rfl, Below.refl _ _⟩
  have H := hide h
  clear h
  go_enter Tryz.func53, Tryz.ntmps53
  go_wp2
  go_loopw [3, 4, 5, 6] (fun q c i _ wr => ∃ (k : Nat) (sq sc : Int), k ≤ n ∧ i = .int .i64 k ∧ q = .int .i64 sq ∧ c = .int .i64 sc ∧ 0 ≤ sq ∧ sq ≤ 1000000000000000 ∧ 0 ≤ sc ∧ sc ≤ 1000000000000000 ∧ Below w.heap.size w wr ∧ Hid (∀ i, i < k → RowOk ps i ∧ (run ps i).1 ≤ 1000000000000000 ∧ (run ps i).2 ≤ 1000000000000000) ∧ Hid (0 < k → (sq, sc) = run ps (k - 1))) (fun _ _ i _ _ => n - (intOf i).toNat)
  case atStart => exact ⟨0, 0, 0, by omega, rfl, rfl, rfl, by omega, by omega, by omega, by omega, Below.refl _ _, hide (fun i hi => absurd hi (by omega)), hide (fun h0 => absurd h0 (by omega))⟩
  case round =>
    obtain ⟨k, sq, sc, hk, rfl, rfl, rfl, sq0, sq1, sc0, sc1, hb, HG, HS⟩ := hrel
    by_cases t : k < n
    · have hA := (unhide H).below hb hg
      obtain ⟨e0, e1, e2, e3, e4⟩ := hA k (by omega)
      have ED : 0 < k → Holds5 wr g ((k - 1) * 5) (el5 ps (k - 1)) := fun k0 => hA (k - 1) (by omega)
      have gs : g < wr.heap.size := Nat.lt_of_lt_of_le hg hb.size
      have gne : g ≠ wr.heap.size := by omega
      clear hA
      have HB := hide hb
      clear hb
      have ROW := hide (show RowOk ps k ↔ One ((el5 ps k).1, (el5 ps k).2.1, (el5 ps k).2.2.1, (el5 ps k).2.2.2.1, (el5 ps k).2.2.2.2) ∧ (0 < k → Bef ((el5 ps (k - 1)).1, (el5 ps (k - 1)).2.1, (el5 ps (k - 1)).2.2.1, (el5 ps (k - 1)).2.2.2.1, (el5 ps (k - 1)).2.2.2.2) ((el5 ps k).1, (el5 ps k).2.1, (el5 ps k).2.2.1, (el5 ps k).2.2.2.1, (el5 ps k).2.2.2.2)) from Iff.rfl)
      have RUN := hide (show RowOk ps k → run ps k = (if k = 0 ∨ (el5 ps k).1 ≠ (el5 ps (k - 1)).1 ∨ (el5 ps k).2.1 ≠ (el5 ps (k - 1)).2.1 then ((el5 ps k).2.2.2.1, (el5 ps k).2.2.2.2) else (sq + (el5 ps k).2.2.2.1, sc + (el5 ps k).2.2.2.2)) from fun hr => by
        rw [run_next (by omega) (fun i hi => by
          by_cases e : i = k
          · subst e; exact hr
          · exact ((unhide HG) i (by omega)).1)]
        by_cases c : k = 0 ∨ (el5 ps k).1 ≠ (el5 ps (k - 1)).1 ∨ (el5 ps k).2.1 ≠ (el5 ps (k - 1)).2.1
        · rw [if_pos c, if_pos c]
        · rw [if_neg c, if_neg c, ← (unhide HS) (by omega)])
      have BAD := hide (show ¬ (RowOk ps k ∧ (run ps k).1 ≤ 1000000000000000 ∧ (run ps k).2 ≤ 1000000000000000) → ok = false from fun hr => hok.not (fun r => hr ((right_iff ps (by omega)).1 r k (by omega))))
      have GOOD := hide (show RowOk ps k ∧ (run ps k).1 ≤ 1000000000000000 ∧ (run ps k).2 ≤ 1000000000000000 → ∀ i, i < k + 1 → RowOk ps i ∧ (run ps i).1 ≤ 1000000000000000 ∧ (run ps i).2 ≤ 1000000000000000 from fun hr i hi => by
        by_cases e : i = k
        · subst e; exact hr
        · exact (unhide HG) i (by omega))
      obtain ⟨rq, rc, RQ⟩ : ∃ rq rc, Hid (run ps k = (rq, rc)) := ⟨_, _, rfl⟩
      rw [unhide RQ] at RUN BAD GOOD
      clear HG HS
      generalize (el5 ps k).1 = x0 at *
      generalize (el5 ps k).2.1 = x1 at *
      generalize (el5 ps k).2.2.1 = x2 at *
      generalize (el5 ps k).2.2.2.1 = x3 at *
      generalize (el5 ps k).2.2.2.2 = x4 at *
      obtain ⟨u0, u1, u2, u3, u4, EU⟩ : ∃ u0 u1 u2 u3 u4, el5 ps (k - 1) = (u0, u1, u2, u3, u4) := ⟨_, _, _, _, _, rfl⟩
      rw [EU] at ROW RUN ED
      clear EU
      obtain ⟨b1, B1⟩ := says_of (One (x0, x1, x2, x3, x4))
      have ONE := hide (one_more wr (.cells #[.int .i64 x0, .int .i64 x1, .int .i64 x2, .int .i64 x3, .int .i64 x4] 97))
      have SL : wr.heap.size < (wr.alloc (.cells #[.int .i64 x0, .int .i64 x1, .int .i64 x2, .int .i64 x3, .int .i64 x4] 97)).heap.size := by simp
      obtain ⟨f0, f1, f2, f3, f4⟩ : Holds5 (wr.alloc (.cells #[.int .i64 x0, .int .i64 x1, .int .i64 x2, .int .i64 x3, .int .i64 x4] 97)) wr.heap.size 0 (x0, x1, x2, x3, x4) := by unfold Holds5; simp
      have ED1 := hide (show 0 < k → Holds5 (wr.alloc (.cells #[.int .i64 x0, .int .i64 x1, .int .i64 x2, .int .i64 x3, .int .i64 x4] 97)) g ((k - 1) * 5) (u0, u1, u2, u3, u4) from fun k0 => (ED k0).below (unhide ONE) gs)
      have HB1 := hide (next (unhide HB) (unhide ONE))
      clear ED ONE
      go_wp2_with fail
      generalize wr.alloc (.cells #[.int .i64 x0, .int .i64 x1, .int .i64 x2, .int .i64 x3, .int .i64 x4] 97) = u at *
      generalize wr.heap.size = yb at *
      have C0 : ∀ n : Near u, n.u.cell? ⟨yb, 0, none⟩ = some (.int .i64 x0) := fun n => (n.b.cell (p := ⟨yb, 0, none⟩) SL).trans f0
      have C1 : ∀ n : Near u, n.u.cell? ⟨yb, 1, none⟩ = some (.int .i64 x1) := fun n => (n.b.cell (p := ⟨yb, 1, none⟩) SL).trans f1
      have C2 : ∀ n : Near u, n.u.cell? ⟨yb, 2, none⟩ = some (.int .i64 x2) := fun n => (n.b.cell (p := ⟨yb, 2, none⟩) SL).trans f2
      have C3 : ∀ n : Near u, n.u.cell? ⟨yb, 3, none⟩ = some (.int .i64 x3) := fun n => (n.b.cell (p := ⟨yb, 3, none⟩) SL).trans f3
      have C4 : ∀ n : Near u, n.u.cell? ⟨yb, 4, none⟩ = some (.int .i64 x4) := fun n => (n.b.cell (p := ⟨yb, 4, none⟩) SL).trans f4
      have near := near_is u
      cases b1
      · have OKF := hide ((unhide BAD) (fun hr => B1.no ((unhide ROW).1 hr.1).1))
        clear BAD GOOD ROW RUN ED1
        refine quiet_near (by kernel_rfl) (by kernel_rfl) ?_
        repeat (go_big_quiet_step (first
          | (go_at_call 86
             rename_i nn
             refine (sRight x0 x1 x2 x3 x4 false nn.u B1).mono ?_
             rintro e u6 ⟨rfl, b6⟩
             exact ⟨rfl, ⟨u6, next nn.b b6⟩, rfl⟩)))
        refine wpQuiet_nil ?_
        rintro u9 ⟨⟨_, b9⟩, rfl⟩
        go_wp2
        go_ret
        exact ⟨by rw [unhide OKF]; rfl, next (unhide HB1) b9⟩
      have o := B1.yes
      obtain ⟨_, _, _, ⟨x3l, x3h⟩, x4l, x4h⟩ : NoOk x0 ∧ NoOk x1 ∧ (1 ≤ x2 ∧ x2 ≤ 1000000000) ∧ (1 ≤ x3 ∧ x3 ≤ 1000000000000000) ∧ (0 ≤ x4 ∧ x4 ≤ 1000000000000000) := o
      by_cases k0 : k = 0
      · subst k0
        have RK := hide ((unhide ROW).2 ⟨B1.yes, fun h0 => absurd h0 (by omega)⟩)
        clear ED1
        refine quiet_near (by kernel_rfl) (by kernel_rfl) ?_
        repeat (go_big_quiet_step (first
          | (go_at_call 86
             rename_i nn
             refine (sRight x0 x1 x2 x3 x4 true nn.u B1).mono ?_
             rintro e u6 ⟨rfl, b6⟩
             exact ⟨rfl, ⟨u6, next nn.b b6⟩, rfl⟩)))
        refine wpQuiet_nil ?_
        rintro u9 ⟨⟨_, b9⟩, rfl⟩
        have f3 : u9.cell? ⟨yb, 3, none⟩ = some (.int .i64 x3) := (b9.cell (p := ⟨yb, 3, none⟩) SL).trans f3
        have f4 : u9.cell? ⟨yb, 4, none⟩ = some (.int .i64 x4) := (b9.cell (p := ⟨yb, 4, none⟩) SL).trans f4
        have BB := hide (next (unhide HB1) b9)
        clear b9 C0 C1 C2 C3 C4 near
        obtain ⟨b3, B3⟩ := says_of (Amt (x3))
        obtain ⟨b4, B4⟩ := says_of (Amt (x4))
        have RE := hide (show (rq, rc) = (x3, x4) from by rw [(unhide RUN) (unhide RK), if_pos (.inl rfl)])
        go_wp2_with fail
        go_quiet (fail)
        go_wp2_with fail
        refine (sAmt (x3) b3 _ B3).mono ?_
        rintro e w3 ⟨rfl, rfl⟩
        cases b3
        · have OKF := hide ((unhide BAD) (fun hr => B3.no (by have e := congrArg Prod.fst (unhide RE); have := hr.2.1; unfold Amt; simp only at e; omega)))
          clear BAD GOOD ROW RUN RE
          go_wp2
          go_ret
          exact ⟨by rw [unhide OKF]; rfl, below_drewN (unhide BB) _⟩
        go_wp2_with fail
        refine (sAmt (x4) b4 _ B4).mono ?_
        rintro e w4 ⟨rfl, rfl⟩
        cases b4
        · have OKF := hide ((unhide BAD) (fun hr => B4.no (by have e := congrArg Prod.snd (unhide RE); have := hr.2.2; unfold Amt; simp only at e; omega)))
          clear BAD GOOD ROW RUN RE
          go_wp2
          go_ret
          exact ⟨by rw [unhide OKF]; rfl, below_drewN (unhide BB) _⟩
        have GO := hide ((unhide GOOD) ⟨unhide RK, by have e := congrArg Prod.fst (unhide RE); have y := B3.yes; unfold Amt at y; simp only at e; omega, by have e := congrArg Prod.snd (unhide RE); have y := B4.yes; unfold Amt at y; simp only at e; omega⟩)
        have y3 := B3.yes.2
        have y4 := B4.yes.2
        clear BAD GOOD ROW RUN HB
        go_wp2
        go_roundw
        case rel => exact ⟨0 + 1, x3, x4, by omega, by go_num, rfl, rfl, by omega, by omega, by omega, by omega, below_drewN (unhide BB) _, GO, hide (fun _ => by rw [show 0 + 1 - 1 = 0 by omega, unhide RQ]; exact (unhide RE).symm)⟩
        case measure => simp [intOf]; omega
      · have d := (unhide ED1) (by omega)
        have gu : g < u.heap.size := by omega
        have D0 : ∀ n : Near u, n.u.cell? ⟨g, (k - 1) * 5, none⟩ = some (.int .i64 u0) := fun n => (n.b.cell (p := ⟨g, (k - 1) * 5, none⟩) gu).trans d.1
        have D1 : ∀ n : Near u, n.u.cell? ⟨g, (k - 1) * 5 + 1, none⟩ = some (.int .i64 u1) := fun n => (n.b.cell (p := ⟨g, (k - 1) * 5 + 1, none⟩) gu).trans d.2.1
        have D2 : ∀ n : Near u, n.u.cell? ⟨g, (k - 1) * 5 + 2, none⟩ = some (.int .i64 u2) := fun n => (n.b.cell (p := ⟨g, (k - 1) * 5 + 2, none⟩) gu).trans d.2.2.1
        have D3 : ∀ n : Near u, n.u.cell? ⟨g, (k - 1) * 5 + 3, none⟩ = some (.int .i64 u3) := fun n => (n.b.cell (p := ⟨g, (k - 1) * 5 + 3, none⟩) gu).trans d.2.2.2.1
        have D4 : ∀ n : Near u, n.u.cell? ⟨g, (k - 1) * 5 + 4, none⟩ = some (.int .i64 u4) := fun n => (n.b.cell (p := ⟨g, (k - 1) * 5 + 4, none⟩) gu).trans d.2.2.2.2
        have HD := hide d
        clear d ED1
        have kp : 0 < k := by omega
        have kz : ((k : Int) == 0) = false := by rw [beq_eq_false_iff_ne]; omega
        have k1 : (0 : Int) < (k : Int) := by omega
        have k2 : (0 : Int) ≤ (k : Int) - 1 := by omega
        have k3 : ((k : Int) - 1).toNat = k - 1 := by omega
        have k4 : IntKind.i64.wrap ((k : Int) - 1) = (k : Int) - 1 := by rw [IntKind.wrap_i64]; omega
        have k5 : (k : Int) - 1 < (n : Int) := by omega
        obtain ⟨b2, B2⟩ := says_of (Bef (u0, u1, u2, u3, u4) (x0, x1, x2, x3, x4))
        cases b2
        · have OKF := hide ((unhide BAD) (fun hr => B2.no (((unhide ROW).1 hr.1).2 (by omega))))
          clear BAD GOOD ROW RUN
          refine quiet_near (by kernel_rfl) (by kernel_rfl) ?_
          repeat (go_big_quiet_step (first
            | (go_at_call 86
               rename_i nn
               refine (sRight x0 x1 x2 x3 x4 true nn.u B1).mono ?_
               rintro e u6 ⟨rfl, b6⟩
               exact ⟨rfl, ⟨u6, next nn.b b6⟩, rfl⟩)
            | (go_at_call 87
               rename_i nn
               refine (sBef u0 u1 u2 u3 u4 x0 x1 x2 x3 x4 false nn.u B2).mono ?_
               rintro e u6 ⟨rfl, b6⟩
               exact ⟨rfl, ⟨u6, next nn.b b6⟩, rfl⟩)))
          refine wpQuiet_nil ?_
          rintro u9 ⟨⟨_, b9⟩, rfl⟩
          go_wp2
          go_ret
          exact ⟨by rw [unhide OKF]; rfl, next (unhide HB1) b9⟩
        have RK := hide ((unhide ROW).2 ⟨B1.yes, fun _ => B2.yes⟩)
        refine quiet_near (by kernel_rfl) (by kernel_rfl) ?_
        repeat (go_big_quiet_step (first
          | (go_at_call 86
             rename_i nn
             refine (sRight x0 x1 x2 x3 x4 true nn.u B1).mono ?_
             rintro e u6 ⟨rfl, b6⟩
             exact ⟨rfl, ⟨u6, next nn.b b6⟩, rfl⟩)
          | (go_at_call 87
             rename_i nn
             refine (sBef u0 u1 u2 u3 u4 x0 x1 x2 x3 x4 true nn.u B2).mono ?_
             rintro e u6 ⟨rfl, b6⟩
             exact ⟨rfl, ⟨u6, next nn.b b6⟩, rfl⟩)))
        refine wpQuiet_nil ?_
        rintro u9 ⟨⟨_, b9⟩, rfl⟩
        have f0 : u9.cell? ⟨yb, 0, none⟩ = some (.int .i64 x0) := (b9.cell (p := ⟨yb, 0, none⟩) SL).trans f0
        have f1 : u9.cell? ⟨yb, 1, none⟩ = some (.int .i64 x1) := (b9.cell (p := ⟨yb, 1, none⟩) SL).trans f1
        have f3 : u9.cell? ⟨yb, 3, none⟩ = some (.int .i64 x3) := (b9.cell (p := ⟨yb, 3, none⟩) SL).trans f3
        have f4 : u9.cell? ⟨yb, 4, none⟩ = some (.int .i64 x4) := (b9.cell (p := ⟨yb, 4, none⟩) SL).trans f4
        have d0 : u9.cell? ⟨g, (k - 1) * 5, none⟩ = some (.int .i64 u0) := (b9.cell (p := ⟨g, (k - 1) * 5, none⟩) gu).trans (unhide HD).1
        have d1 : u9.cell? ⟨g, (k - 1) * 5 + 1, none⟩ = some (.int .i64 u1) := (b9.cell (p := ⟨g, (k - 1) * 5 + 1, none⟩) gu).trans (unhide HD).2.1
        have BB := hide (next (unhide HB1) b9)
        clear b9 C0 C1 C2 C3 C4 D0 D1 D2 D3 D4 near
        by_cases c0 : x0 = u0
        · by_cases c1 : x1 = u1
          · subst c0 c1
            obtain ⟨b3, B3⟩ := says_of (Amt (sq + x3))
            obtain ⟨b4, B4⟩ := says_of (Amt (sc + x4))
            have RE := hide (show (rq, rc) = (sq + x3, sc + x4) from by rw [(unhide RUN) (unhide RK), if_neg (by omega)])
            go_wp2_with fail
            go_quiet (fail)
            go_wp2_with fail
            refine (sAmt (sq + x3) b3 _ B3).mono ?_
            rintro e w3 ⟨rfl, rfl⟩
            cases b3
            · have OKF := hide ((unhide BAD) (fun hr => B3.no (by have e := congrArg Prod.fst (unhide RE); have := hr.2.1; unfold Amt; simp only at e; omega)))
              clear BAD GOOD ROW RUN RE
              go_wp2
              go_ret
              exact ⟨by rw [unhide OKF]; rfl, below_drewN (unhide BB) _⟩
            go_wp2_with fail
            refine (sAmt (sc + x4) b4 _ B4).mono ?_
            rintro e w4 ⟨rfl, rfl⟩
            cases b4
            · have OKF := hide ((unhide BAD) (fun hr => B4.no (by have e := congrArg Prod.snd (unhide RE); have := hr.2.2; unfold Amt; simp only at e; omega)))
              clear BAD GOOD ROW RUN RE
              go_wp2
              go_ret
              exact ⟨by rw [unhide OKF]; rfl, below_drewN (unhide BB) _⟩
            have GO := hide ((unhide GOOD) ⟨unhide RK, by have e := congrArg Prod.fst (unhide RE); have y := B3.yes; unfold Amt at y; simp only at e; omega, by have e := congrArg Prod.snd (unhide RE); have y := B4.yes; unfold Amt at y; simp only at e; omega⟩)
            have y3 := B3.yes.2
            have y4 := B4.yes.2
            clear BAD GOOD ROW RUN HB
            go_wp2
            go_roundw
            case rel => exact ⟨k + 1, sq + x3, sc + x4, by omega, by go_num, rfl, rfl, by omega, by omega, by omega, by omega, below_drewN (unhide BB) _, GO, hide (fun _ => by rw [show k + 1 - 1 = k by omega, unhide RQ]; exact (unhide RE).symm)⟩
            case measure => simp [intOf]; omega
          · have q1 : (x1 != u1) = true := by simpa using c1
            obtain ⟨b3, B3⟩ := says_of (Amt (x3))
            obtain ⟨b4, B4⟩ := says_of (Amt (x4))
            have RE := hide (show (rq, rc) = (x3, x4) from by rw [(unhide RUN) (unhide RK), if_pos (.inr (.inr c1))])
            go_wp2_with fail
            go_quiet (fail)
            go_wp2_with fail
            refine (sAmt (x3) b3 _ B3).mono ?_
            rintro e w3 ⟨rfl, rfl⟩
            cases b3
            · have OKF := hide ((unhide BAD) (fun hr => B3.no (by have e := congrArg Prod.fst (unhide RE); have := hr.2.1; unfold Amt; simp only at e; omega)))
              clear BAD GOOD ROW RUN RE
              go_wp2
              go_ret
              exact ⟨by rw [unhide OKF]; rfl, below_drewN (unhide BB) _⟩
            go_wp2_with fail
            refine (sAmt (x4) b4 _ B4).mono ?_
            rintro e w4 ⟨rfl, rfl⟩
            cases b4
            · have OKF := hide ((unhide BAD) (fun hr => B4.no (by have e := congrArg Prod.snd (unhide RE); have := hr.2.2; unfold Amt; simp only at e; omega)))
              clear BAD GOOD ROW RUN RE
              go_wp2
              go_ret
              exact ⟨by rw [unhide OKF]; rfl, below_drewN (unhide BB) _⟩
            have GO := hide ((unhide GOOD) ⟨unhide RK, by have e := congrArg Prod.fst (unhide RE); have y := B3.yes; unfold Amt at y; simp only at e; omega, by have e := congrArg Prod.snd (unhide RE); have y := B4.yes; unfold Amt at y; simp only at e; omega⟩)
            have y3 := B3.yes.2
            have y4 := B4.yes.2
            clear BAD GOOD ROW RUN HB
            go_wp2
            go_roundw
            case rel => exact ⟨k + 1, x3, x4, by omega, by go_num, rfl, rfl, by omega, by omega, by omega, by omega, below_drewN (unhide BB) _, GO, hide (fun _ => by rw [show k + 1 - 1 = k by omega, unhide RQ]; exact (unhide RE).symm)⟩
            case measure => simp [intOf]; omega
        · have q1 : (x0 != u0) = true := by simpa using c0
          obtain ⟨b3, B3⟩ := says_of (Amt (x3))
          obtain ⟨b4, B4⟩ := says_of (Amt (x4))
          have RE := hide (show (rq, rc) = (x3, x4) from by rw [(unhide RUN) (unhide RK), if_pos (.inr (.inl c0))])
          go_wp2_with fail
          go_quiet (fail)
          go_wp2_with fail
          refine (sAmt (x3) b3 _ B3).mono ?_
          rintro e w3 ⟨rfl, rfl⟩
          cases b3
          · have OKF := hide ((unhide BAD) (fun hr => B3.no (by have e := congrArg Prod.fst (unhide RE); have := hr.2.1; unfold Amt; simp only at e; omega)))
            clear BAD GOOD ROW RUN RE
            go_wp2
            go_ret
            exact ⟨by rw [unhide OKF]; rfl, below_drewN (unhide BB) _⟩
          go_wp2_with fail
          refine (sAmt (x4) b4 _ B4).mono ?_
          rintro e w4 ⟨rfl, rfl⟩
          cases b4
          · have OKF := hide ((unhide BAD) (fun hr => B4.no (by have e := congrArg Prod.snd (unhide RE); have := hr.2.2; unfold Amt; simp only at e; omega)))
            clear BAD GOOD ROW RUN RE
            go_wp2
            go_ret
            exact ⟨by rw [unhide OKF]; rfl, below_drewN (unhide BB) _⟩
          have GO := hide ((unhide GOOD) ⟨unhide RK, by have e := congrArg Prod.fst (unhide RE); have y := B3.yes; unfold Amt at y; simp only at e; omega, by have e := congrArg Prod.snd (unhide RE); have y := B4.yes; unfold Amt at y; simp only at e; omega⟩)
          have y3 := B3.yes.2
          have y4 := B4.yes.2
          clear BAD GOOD ROW RUN HB
          go_wp2
          go_roundw
          case rel => exact ⟨k + 1, x3, x4, by omega, by go_num, rfl, rfl, by omega, by omega, by omega, by omega, below_drewN (unhide BB) _, GO, hide (fun _ => by rw [show k + 1 - 1 = k by omega, unhide RQ]; exact (unhide RE).symm)⟩
          case measure => simp [intOf]; omega
    · obtain rfl : k = n := by omega
      obtain rfl : ok = true := hok.of ((right_iff ps (by omega)).2 (by rw [hl]; exact unhide HG))
      have HB := hide hb
      clear hb hok
      go_wp2
      go_ret
      exact ⟨rfl, unhide HB⟩
end Go.Proofs.YteccbaohfmhnfaaGreat.SOk5
namespace Go.Proofs.YteccbaohfmhnfaaGreat.ITrade
open Go.ChangeShapes Go.WideShapes Go.ChangeAt Go.RowKit BMem Bks IRead IHave
open Tup8 (T8 el8 At8 Holds8 Own8 Reads8)
open Lots (Says says_of NoOk)
open SOk5 (one_more)
/-- Numbers in a new block. -/
theorem at_new (w : World) (xs : List Int) (e : TypeId) {g : Nat} {cur : Array Value} (hg : g = w.heap.size) (hc : cur = (xs.map (Value.int .i64)).toArray) : Ints.At (w.alloc (.cells cur e)) g xs := by
  subst hg hc
  intro i hi
  unfold World.cell?
  simp only [heap_alloc_new]
  simp [hi]
set_option maxRecDepth 100000 in
set_option maxHeartbeats 2000000 in
theorem iOne (w : World) (x0 x1 x2 x3 x4 x5 x6 x7 : Int) (b : Bool) (hb : Says b (TOne (x0, x1, x2, x3, x4, x5, x6, x7))) :
    Calls Tryz.prog 138 #[.agg #[.int .i64 x0, .int .i64 x1, .int .i64 x2, .int .i64 x3, .int .i64 x4, .int .i64 x5, .int .i64 x6, .int .i64 x7]] w fun e w' => e = .returned (.bool b) ∧ Below w.heap.size w w' := by
  have T := hide hb
  obtain ⟨b1, h1⟩ := says_of (∀ x ∈ [x0, x1, x2, x3, x5], NoOk x)
  have H1 := hide h1
  obtain ⟨b4, h4⟩ := says_of (1 ≤ x4 ∧ x4 ≤ 1000000000000000)
  have H4 := hide h4
  obtain ⟨b6, h6⟩ := says_of (0 ≤ x6 ∧ x6 ≤ 1000000000000000)
  have H6 := hide h6
  clear hb h1 h4 h6
  go_enter Tryz.func138, Tryz.ntmps138
  go_wp2_with fail
  refine (iNumbers _ (w.heap.size + 1) 5 5 [x0, x1, x2, x3, x5] b1 rfl (by omega) (by simp) (at_new _ [x0, x1, x2, x3, x5] _ (by simp) rfl) (unhide H1)).mono ?_
  rintro e w1 ⟨rfl, b1'⟩
  have B1 := hide ((((Below.refl w.heap.size w).alloc (Nat.le_refl _) _).alloc (by simp) _).trans (b1'.mono (by simp; omega)))
  have e1 : w1.cell? ⟨w.heap.size, 1, none⟩ = some (.int .i64 x1) := (b1'.cell (p := ⟨w.heap.size, 1, none⟩) (by simp; omega)).trans (by simp)
  have e2 : w1.cell? ⟨w.heap.size, 2, none⟩ = some (.int .i64 x2) := (b1'.cell (p := ⟨w.heap.size, 2, none⟩) (by simp; omega)).trans (by simp)
  have e4 : w1.cell? ⟨w.heap.size, 4, none⟩ = some (.int .i64 x4) := (b1'.cell (p := ⟨w.heap.size, 4, none⟩) (by simp; omega)).trans (by simp)
  have e6 : w1.cell? ⟨w.heap.size, 6, none⟩ = some (.int .i64 x6) := (b1'.cell (p := ⟨w.heap.size, 6, none⟩) (by simp; omega)).trans (by simp)
  have e7 : w1.cell? ⟨w.heap.size, 7, none⟩ = some (.int .i64 x7) := (b1'.cell (p := ⟨w.heap.size, 7, none⟩) (by simp; omega)).trans (by simp)
  clear b1'
  cases b1
  · have F := hide ((unhide T).not (fun h => (unhide H1).no (by
      obtain ⟨k0, k1, k2, k3, k5, _⟩ := h
      intro x hx
      simp at hx
      rcases hx with rfl | rfl | rfl | rfl | rfl
      · exact k0
      · exact k1
      · exact k2
      · exact k3
      · exact k5)))
    clear T H1 H4 H6
    go_wp2
    go_ret
    exact ⟨by rw [unhide F]; rfl, unhide B1⟩
  have N := hide (unhide H1).yes
  by_cases c : x1 = x2
  · have F := hide ((unhide T).not (fun h => h.2.2.2.2.2.1 c))
    have hz : (x1 != x2) = false := by simp [c]
    clear T H1 H4 H6 N c
    go_wp2
    go_ret
    exact ⟨by rw [unhide F]; rfl, unhide B1⟩
  have hz : (x1 != x2) = true := by simp [c]
  have C := hide c
  clear c
  go_wp2_with fail
  refine (iFrom _ _ b4 _ (unhide H4)).mono ?_
  rintro e w2 ⟨rfl, rfl⟩
  cases b4
  · have F := hide ((unhide T).not (fun h => (unhide H4).no h.2.2.2.2.2.2.1))
    clear T H1 H4 H6 N C
    go_wp2
    go_ret
    exact ⟨by rw [unhide F]; rfl, unhide B1⟩
  go_wp2_with fail
  refine (iFrom _ _ b6 _ (unhide H6)).mono ?_
  rintro e w2 ⟨rfl, rfl⟩
  cases b6
  · have F := hide ((unhide T).not (fun h => (unhide H6).no h.2.2.2.2.2.2.2.1))
    clear T H1 H4 H6 N C
    go_wp2
    go_ret
    exact ⟨by rw [unhide F]; rfl, unhide B1⟩
  by_cases c1 : 1 ≤ x7
  · have hd : decide (x7 ≤ 3) = b := by
      by_cases c2 : x7 ≤ 3
      · rw [decide_eq_true c2]
        exact ((unhide T).of ⟨(unhide N) _ (by simp), (unhide N) _ (by simp), (unhide N) _ (by simp), (unhide N) _ (by simp), (unhide N) _ (by simp), unhide C, (unhide H4).yes, (unhide H6).yes, c1, c2⟩).symm
      · rw [decide_eq_false c2]
        exact ((unhide T).not (fun h => c2 h.2.2.2.2.2.2.2.2.2)).symm
    clear T H1 H4 H6 N C
    go_wp2
    go_ret
    exact ⟨rfl, unhide B1⟩
  · have F := hide ((unhide T).not (fun h => c1 h.2.2.2.2.2.2.2.2.1))
    have hd : decide (1 ≤ x7) = false := decide_eq_false c1
    clear T H1 H4 H6 N C c1
    go_wp2
    go_ret
    exact ⟨by rw [unhide F]; rfl, unhide B1⟩
/-- The number ahead of element k. -/
def ahead (ps : List T8) (k : Nat) : Int := if k = 0 then 0 else (el8 ps (k - 1)).1
theorem ahead_next (ps : List T8) (k : Nat) : ahead ps (k + 1) = (el8 ps k).1 := by simp [ahead]
theorem row_iff (ps : List T8) (k : Nat) : TRowOk ps k ↔ TOne (el8 ps k) ∧ ¬ (el8 ps k).1 ≤ ahead ps k := by
  unfold TRowOk ahead
  by_cases k0 : k = 0
  · subst k0
    constructor
    · rintro ⟨h, _⟩
      have := h.1.1
      refine ⟨h, ?_⟩
      rw [if_pos rfl]
      omega
    · rintro ⟨h, _⟩
      exact ⟨h, fun h => by omega⟩
  · rw [if_neg k0]
    constructor
    · rintro ⟨h, k⟩
      have := k (by omega)
      exact ⟨h, by omega⟩
    · rintro ⟨h, k⟩
      exact ⟨h, fun _ => by omega⟩
set_option maxRecDepth 100000 in
set_option maxHeartbeats 2000000 in
theorem iOk (w : World) (g n cap : Nat) (ps : List T8) (ok : Bool) (hl : ps.length = n) (h20 : n ≤ 1048576) (hg : g < w.heap.size) (h : At8 w g ps) (hok : Says ok (TRight ps)) :
    Calls Tryz.prog 114 #[.slice (some ⟨g, 0, none⟩) n cap] w fun e w' => e = .returned (.bool ok) ∧ Below w.heap.size w w' := by
  have HL := hide hl
  by_cases nn : (30 : Int) < (n : Int)
  · obtain rfl : ok = false := hok.not (fun r => by have := r.1; omega)
    clear hok h hl
    go_enter Tryz.func114, Tryz.ntmps114
    go_wp2
    go_ret
    exact ⟨rfl, Below.refl _ _⟩
  have OK := hide hok
  have H := hide h
  clear hok h hl
  go_enter Tryz.func114, Tryz.ntmps114
  go_wp2
  go_loopw [3, 11] (fun p i wr => ∃ (k : Nat) (bf : Int), k ≤ n ∧ i = .int .i64 k ∧ p = .int .i64 bf ∧ Hid (ahead ps k = bf) ∧ Below w.heap.size w wr ∧ Hid (∀ i, i < k → TRowOk ps i)) (fun _ i _ => n - (intOf i).toNat)
  case atStart => exact ⟨0, 0, by omega, rfl, rfl, hide rfl, Below.refl _ _, hide (fun i hi => absurd hi (by omega))⟩
  case round =>
    obtain ⟨k, bf, hk, rfl, rfl, HP, hb, HG⟩ := hrel
    have HB := hide hb
    have hs := hb.size
    by_cases t : k < n
    · obtain ⟨d0, d1, d2, d3, d4, d5, d6, d7⟩ := (((unhide H) k (by rw [unhide HL]; exact t)).below hb hg)
      clear hb
      have ROW := hide (row_iff ps k)
      rw [unhide HP] at ROW
      have AN := hide (ahead_next ps k)
      have BAD := hide (show ¬ TRowOk ps k → ok = false from fun hr => (unhide OK).not (fun r => hr (r.2 k (by rw [unhide HL]; exact t))))
      have GOOD := hide (show TRowOk ps k → ∀ i, i < k + 1 → TRowOk ps i from fun hr i hi => by
        by_cases e : i = k
        · subst e; exact hr
        · exact (unhide HG) i (by omega))
      have EL : Hid (el8 ps k = ((el8 ps k).1, (el8 ps k).2.1, (el8 ps k).2.2.1, (el8 ps k).2.2.2.1, (el8 ps k).2.2.2.2.1, (el8 ps k).2.2.2.2.2.1, (el8 ps k).2.2.2.2.2.2.1, (el8 ps k).2.2.2.2.2.2.2)) := rfl
      generalize (el8 ps k).1 = x0 at *
      generalize (el8 ps k).2.1 = x1 at *
      generalize (el8 ps k).2.2.1 = x2 at *
      generalize (el8 ps k).2.2.2.1 = x3 at *
      generalize (el8 ps k).2.2.2.2.1 = x4 at *
      generalize (el8 ps k).2.2.2.2.2.1 = x5 at *
      generalize (el8 ps k).2.2.2.2.2.2.1 = x6 at *
      generalize (el8 ps k).2.2.2.2.2.2.2 = x7 at *
      rw [unhide EL] at ROW
      obtain ⟨b1, h1⟩ := says_of (TOne (x0, x1, x2, x3, x4, x5, x6, x7))
      have H1 := hide h1
      clear h1 EL
      go_wp2_with fail
      refine (iOne _ x0 x1 x2 x3 x4 x5 x6 x7 b1 (unhide H1)).mono ?_
      rintro e w1 ⟨rfl, b1'⟩
      have e0 : w1.cell? ⟨wr.heap.size, 0, none⟩ = some (.int .i64 x0) := (b1'.cell (p := ⟨wr.heap.size, 0, none⟩) (by simp)).trans (by simp)
      have B1 := hide ((unhide HB).trans ((((Below.refl wr.heap.size wr).alloc (Nat.le_refl _) _).trans (b1'.mono (by simp))).mono hs))
      clear b1' d0 d1 d2 d3 d4 d5 d6 d7
      cases b1
      · have F := hide ((unhide BAD) (fun hr => (unhide H1).no ((unhide ROW).1 hr).1))
        clear BAD GOOD ROW H1
        go_wp2
        go_ret
        exact ⟨by rw [unhide F]; rfl, unhide B1⟩
      by_cases c : x0 ≤ bf
      · have F := hide ((unhide BAD) (fun hr => by have := ((unhide ROW).1 hr).2; omega))
        clear BAD GOOD ROW H1
        go_wp2
        go_ret
        exact ⟨by rw [unhide F]; rfl, unhide B1⟩
      · have G := hide ((unhide GOOD) ((unhide ROW).2 ⟨(unhide H1).yes, by omega⟩))
        have hc : decide (x0 ≤ bf) = false := decide_eq_false c
        clear BAD GOOD ROW H1 c
        go_wp2
        go_roundw
        case rel => exact ⟨k + 1, x0, by omega, by go_num, rfl, AN, unhide B1, G⟩
        case measure => simp [intOf]; omega
    · clear hb
      have F := hide ((unhide OK).of ⟨by rw [unhide HL]; omega, fun i hi => (unhide HG) i (by rw [unhide HL] at hi; omega)⟩)
      go_wp2
      go_ret
      exact ⟨by rw [unhide F]; rfl, unhide HB⟩
set_option maxRecDepth 100000 in
set_option maxHeartbeats 4000000 in
theorem sOk (w : World) (g n cap : Nat) (ps : List T8) (ok : Bool) (hl : ps.length = n) (h20 : n ≤ 1048576) (hg : g < w.heap.size) (h : At8 w g ps) (hok : Says ok (TRight ps)) :
    Calls Tryz.prog 54 #[.slice (some ⟨g, 0, none⟩) n cap] w fun e w' => e = .returned (.bool ok) ∧ Below w.heap.size w w' := by
  have HL := hide hl
  by_cases nn : (30 : Int) < (n : Int)
  · obtain rfl : ok = false := hok.not (fun r => by have := r.1; omega)
    clear hok h hl
    go_enter Tryz.func54, Tryz.ntmps54
    go_wp2
    go_ret
    exact ⟨rfl, Below.refl _ _⟩
  have OK := hide hok
  have H := hide h
  clear hok h hl
  go_enter Tryz.func54, Tryz.ntmps54
  go_wp2
  go_loopw [3] (fun i wr => ∃ (k : Nat), k ≤ n ∧ i = .int .i64 k ∧ Below w.heap.size w wr ∧ Hid (∀ i, i < k → TRowOk ps i)) (fun i _ => n - (intOf i).toNat)
  case atStart => exact ⟨0, by omega, rfl, Below.refl _ _, hide (fun i hi => absurd hi (by omega))⟩
  case round =>
    obtain ⟨k, hk, rfl, hb, HG⟩ := hrel
    have HB := hide hb
    have hs := hb.size
    by_cases t : k < n
    · obtain ⟨d0, d1, d2, d3, d4, d5, d6, d7⟩ := (((unhide H) k (by rw [unhide HL]; exact t)).below hb hg)
      have PR : k = 0 ∨ ∃ z : Int, Hid ((el8 ps (k - 1)).1 = z) ∧ 0 < k ∧ wr.cell? ⟨g, (k - 1) * 8, none⟩ = some (.int .i64 z) := by
        by_cases k0 : k = 0
        · exact .inl k0
        · exact .inr ⟨_, hide rfl, by omega, (((unhide H) (k - 1) (by rw [unhide HL]; omega)).below hb hg).1⟩
      clear hb
      have ROW := hide (show TRowOk ps k ↔ TOne (el8 ps k) ∧ (0 < k → (el8 ps (k - 1)).1 < (el8 ps k).1) from Iff.rfl)
      have BAD := hide (show ¬ TRowOk ps k → ok = false from fun hr => (unhide OK).not (fun r => hr (r.2 k (by rw [unhide HL]; exact t))))
      have GOOD := hide (show TRowOk ps k → ∀ i, i < k + 1 → TRowOk ps i from fun hr i hi => by
        by_cases e : i = k
        · subst e; exact hr
        · exact (unhide HG) i (by omega))
      have EL : Hid (el8 ps k = ((el8 ps k).1, (el8 ps k).2.1, (el8 ps k).2.2.1, (el8 ps k).2.2.2.1, (el8 ps k).2.2.2.2.1, (el8 ps k).2.2.2.2.2.1, (el8 ps k).2.2.2.2.2.2.1, (el8 ps k).2.2.2.2.2.2.2)) := rfl
      generalize (el8 ps k).1 = x0 at *
      generalize (el8 ps k).2.1 = x1 at *
      generalize (el8 ps k).2.2.1 = x2 at *
      generalize (el8 ps k).2.2.2.1 = x3 at *
      generalize (el8 ps k).2.2.2.2.1 = x4 at *
      generalize (el8 ps k).2.2.2.2.2.1 = x5 at *
      generalize (el8 ps k).2.2.2.2.2.2.1 = x6 at *
      generalize (el8 ps k).2.2.2.2.2.2.2 = x7 at *
      rw [unhide EL] at ROW
      clear EL
      have NB := hide (fun m => (unhide HB).trans ((below_drewN (one_more wr (.cells #[.int .i64 x0, .int .i64 x1, .int .i64 x2, .int .i64 x3, .int .i64 x4, .int .i64 x5, .int .i64 x6, .int .i64 x7] 84)) m).mono hs))
      obtain ⟨b0, B0⟩ := says_of (NoOk x0)
      obtain ⟨b1, B1⟩ := says_of (NoOk x1)
      obtain ⟨b2, B2⟩ := says_of (NoOk x2)
      obtain ⟨b3, B3⟩ := says_of (NoOk x3)
      obtain ⟨b4, B4⟩ := says_of (NoOk x5)
      obtain ⟨b6, B6⟩ := says_of (1 ≤ x4 ∧ x4 ≤ 1000000000000000)
      obtain ⟨b7, B7⟩ := says_of (0 ≤ x6 ∧ x6 ≤ 1000000000000000)
      obtain ⟨b8, B8⟩ := says_of (1 ≤ x7 ∧ x7 ≤ 3)
      cases b0
      · have F := hide ((unhide BAD) (fun hr => B0.no ((unhide ROW).1 hr).1.1))
        clear BAD GOOD ROW PR
        go_wp2_with fail
        go_quiet (first | (go_at_call 17; refine Calls.quiet_of_same (SOk5.sNo _ false _ B0)))
        go_wp2
        go_ret
        exact ⟨by rw [unhide F]; rfl, (unhide NB) _⟩
      cases b1
      · have F := hide ((unhide BAD) (fun hr => B1.no ((unhide ROW).1 hr).1.2.1))
        clear BAD GOOD ROW PR
        go_wp2_with fail
        go_quiet (first | (go_at_call 17; refine Calls.quiet_of_same (SOk5.sNo _ true _ B0)) | (go_at_call 17; refine Calls.quiet_of_same (SOk5.sNo _ false _ B1)))
        go_wp2
        go_ret
        exact ⟨by rw [unhide F]; rfl, (unhide NB) _⟩
      cases b2
      · have F := hide ((unhide BAD) (fun hr => B2.no ((unhide ROW).1 hr).1.2.2.1))
        clear BAD GOOD ROW PR
        go_wp2_with fail
        go_quiet (first | (go_at_call 17; refine Calls.quiet_of_same (SOk5.sNo _ true _ B0)) | (go_at_call 17; refine Calls.quiet_of_same (SOk5.sNo _ true _ B1)) | (go_at_call 17; refine Calls.quiet_of_same (SOk5.sNo _ false _ B2)))
        go_wp2
        go_ret
        exact ⟨by rw [unhide F]; rfl, (unhide NB) _⟩
      cases b3
      · have F := hide ((unhide BAD) (fun hr => B3.no ((unhide ROW).1 hr).1.2.2.2.1))
        clear BAD GOOD ROW PR
        go_wp2_with fail
        go_quiet (first | (go_at_call 17; refine Calls.quiet_of_same (SOk5.sNo _ true _ B0)) | (go_at_call 17; refine Calls.quiet_of_same (SOk5.sNo _ true _ B1)) | (go_at_call 17; refine Calls.quiet_of_same (SOk5.sNo _ true _ B2)) | (go_at_call 17; refine Calls.quiet_of_same (SOk5.sNo _ false _ B3)))
        go_wp2
        go_ret
        exact ⟨by rw [unhide F]; rfl, (unhide NB) _⟩
      cases b4
      · have F := hide ((unhide BAD) (fun hr => B4.no ((unhide ROW).1 hr).1.2.2.2.2.1))
        clear BAD GOOD ROW PR
        go_wp2_with fail
        go_quiet (first | (go_at_call 17; refine Calls.quiet_of_same (SOk5.sNo _ true _ B0)) | (go_at_call 17; refine Calls.quiet_of_same (SOk5.sNo _ true _ B1)) | (go_at_call 17; refine Calls.quiet_of_same (SOk5.sNo _ true _ B2)) | (go_at_call 17; refine Calls.quiet_of_same (SOk5.sNo _ true _ B3)) | (go_at_call 17; refine Calls.quiet_of_same (SOk5.sNo _ false _ B4)))
        go_wp2
        go_ret
        exact ⟨by rw [unhide F]; rfl, (unhide NB) _⟩
      by_cases c : x1 = x2
      · have F := hide ((unhide BAD) (fun hr => ((unhide ROW).1 hr).1.2.2.2.2.2.1 c))
        have hz : (x1 == x2) = true := by simp [c]
        clear BAD GOOD ROW c PR
        go_wp2_with fail
        go_quiet (first | (go_at_call 17; refine Calls.quiet_of_same (SOk5.sNo _ true _ B0)) | (go_at_call 17; refine Calls.quiet_of_same (SOk5.sNo _ true _ B1)) | (go_at_call 17; refine Calls.quiet_of_same (SOk5.sNo _ true _ B2)) | (go_at_call 17; refine Calls.quiet_of_same (SOk5.sNo _ true _ B3)) | (go_at_call 17; refine Calls.quiet_of_same (SOk5.sNo _ true _ B4)))
        go_wp2
        go_ret
        exact ⟨by rw [unhide F]; rfl, (unhide NB) _⟩
      have hz : (x1 == x2) = false := by simp [c]
      have C := hide c
      clear c
      cases b6
      · have F := hide ((unhide BAD) (fun hr => B6.no ((unhide ROW).1 hr).1.2.2.2.2.2.2.1))
        clear BAD GOOD ROW PR
        go_wp2_with fail
        go_quiet (first | (go_at_call 17; refine Calls.quiet_of_same (SOk5.sNo _ true _ B0)) | (go_at_call 17; refine Calls.quiet_of_same (SOk5.sNo _ true _ B1)) | (go_at_call 17; refine Calls.quiet_of_same (SOk5.sNo _ true _ B2)) | (go_at_call 17; refine Calls.quiet_of_same (SOk5.sNo _ true _ B3)) | (go_at_call 17; refine Calls.quiet_of_same (SOk5.sNo _ true _ B4)) | (go_at_call 18; refine Calls.quiet_of_same (SOk5.sSome _ _ false _ B6)))
        go_wp2
        go_ret
        exact ⟨by rw [unhide F]; rfl, (unhide NB) _⟩
      cases b7
      · have F := hide ((unhide BAD) (fun hr => B7.no ((unhide ROW).1 hr).1.2.2.2.2.2.2.2.1))
        clear BAD GOOD ROW PR
        go_wp2_with fail
        go_quiet (first | (go_at_call 17; refine Calls.quiet_of_same (SOk5.sNo _ true _ B0)) | (go_at_call 17; refine Calls.quiet_of_same (SOk5.sNo _ true _ B1)) | (go_at_call 17; refine Calls.quiet_of_same (SOk5.sNo _ true _ B2)) | (go_at_call 17; refine Calls.quiet_of_same (SOk5.sNo _ true _ B3)) | (go_at_call 17; refine Calls.quiet_of_same (SOk5.sNo _ true _ B4)) | (go_at_call 18; refine Calls.quiet_of_same (SOk5.sSome _ _ true _ B6)) | (go_at_call 18; refine Calls.quiet_of_same (SOk5.sSome _ _ false _ B7)))
        go_wp2
        go_ret
        exact ⟨by rw [unhide F]; rfl, (unhide NB) _⟩
      cases b8
      · have F := hide ((unhide BAD) (fun hr => B8.no ((unhide ROW).1 hr).1.2.2.2.2.2.2.2.2))
        clear BAD GOOD ROW PR
        go_wp2_with fail
        go_quiet (first | (go_at_call 17; refine Calls.quiet_of_same (SOk5.sNo _ true _ B0)) | (go_at_call 17; refine Calls.quiet_of_same (SOk5.sNo _ true _ B1)) | (go_at_call 17; refine Calls.quiet_of_same (SOk5.sNo _ true _ B2)) | (go_at_call 17; refine Calls.quiet_of_same (SOk5.sNo _ true _ B3)) | (go_at_call 17; refine Calls.quiet_of_same (SOk5.sNo _ true _ B4)) | (go_at_call 18; refine Calls.quiet_of_same (SOk5.sSome _ _ true _ B6)) | (go_at_call 18; refine Calls.quiet_of_same (SOk5.sSome _ _ true _ B7)) | (go_at_call 55; refine Calls.quiet_of_same (SOk5.sIn _ _ _ false _ B8)))
        go_wp2
        go_ret
        exact ⟨by rw [unhide F]; rfl, (unhide NB) _⟩
      have ONE := hide (show TOne (x0, x1, x2, x3, x4, x5, x6, x7) from ⟨B0.yes, B1.yes, B2.yes, B3.yes, B4.yes, unhide C, B6.yes, B7.yes, B8.yes⟩)
      rcases PR with rfl | ⟨z, Z, k0, pc⟩
      · have G := hide ((unhide GOOD) ((unhide ROW).2 ⟨unhide ONE, fun h => by omega⟩))
        clear BAD GOOD ROW ONE
        go_wp2_with fail
        go_quiet (first | (go_at_call 17; refine Calls.quiet_of_same (SOk5.sNo _ true _ B0)) | (go_at_call 17; refine Calls.quiet_of_same (SOk5.sNo _ true _ B1)) | (go_at_call 17; refine Calls.quiet_of_same (SOk5.sNo _ true _ B2)) | (go_at_call 17; refine Calls.quiet_of_same (SOk5.sNo _ true _ B3)) | (go_at_call 17; refine Calls.quiet_of_same (SOk5.sNo _ true _ B4)) | (go_at_call 18; refine Calls.quiet_of_same (SOk5.sSome _ _ true _ B6)) | (go_at_call 18; refine Calls.quiet_of_same (SOk5.sSome _ _ true _ B7)) | (go_at_call 55; refine Calls.quiet_of_same (SOk5.sIn _ _ _ true _ B8)))
        go_wp2
        go_roundw
        case rel => exact ⟨1, by omega, by go_num, (unhide NB) _, G⟩
        case measure => simp [intOf]; omega
      · have k1 : (0 : Int) < (k : Int) := by omega
        have k2 : (0 : Int) ≤ (k : Int) - 1 := by omega
        have k3 : ((k : Int) - 1).toNat = k - 1 := by omega
        have k4 : IntKind.i64.wrap ((k : Int) - 1) = (k : Int) - 1 := by rw [IntKind.wrap_i64]; omega
        have k5 : (k : Int) - 1 < (n : Int) := by omega
        have gne : g ≠ wr.heap.size := by omega
        have gs : g < wr.heap.size := by omega
        by_cases c : z ≥ x0
        · have F := hide ((unhide BAD) (fun hr => by have := ((unhide ROW).1 hr).2 k0; rw [unhide Z] at this; omega))
          have hc : decide (z ≥ x0) = true := decide_eq_true c
          clear BAD GOOD ROW ONE c
          go_wp2_with fail
          go_quiet (first | (go_at_call 17; refine Calls.quiet_of_same (SOk5.sNo _ true _ B0)) | (go_at_call 17; refine Calls.quiet_of_same (SOk5.sNo _ true _ B1)) | (go_at_call 17; refine Calls.quiet_of_same (SOk5.sNo _ true _ B2)) | (go_at_call 17; refine Calls.quiet_of_same (SOk5.sNo _ true _ B3)) | (go_at_call 17; refine Calls.quiet_of_same (SOk5.sNo _ true _ B4)) | (go_at_call 18; refine Calls.quiet_of_same (SOk5.sSome _ _ true _ B6)) | (go_at_call 18; refine Calls.quiet_of_same (SOk5.sSome _ _ true _ B7)) | (go_at_call 55; refine Calls.quiet_of_same (SOk5.sIn _ _ _ true _ B8)))
          go_wp2
          go_ret
          exact ⟨by rw [unhide F]; rfl, (unhide NB) _⟩
        · have G := hide ((unhide GOOD) ((unhide ROW).2 ⟨unhide ONE, fun _ => by rw [unhide Z]; omega⟩))
          have hc : decide (z ≥ x0) = false := decide_eq_false c
          clear BAD GOOD ROW c ONE
          go_wp2_with fail
          go_quiet (first | (go_at_call 17; refine Calls.quiet_of_same (SOk5.sNo _ true _ B0)) | (go_at_call 17; refine Calls.quiet_of_same (SOk5.sNo _ true _ B1)) | (go_at_call 17; refine Calls.quiet_of_same (SOk5.sNo _ true _ B2)) | (go_at_call 17; refine Calls.quiet_of_same (SOk5.sNo _ true _ B3)) | (go_at_call 17; refine Calls.quiet_of_same (SOk5.sNo _ true _ B4)) | (go_at_call 18; refine Calls.quiet_of_same (SOk5.sSome _ _ true _ B6)) | (go_at_call 18; refine Calls.quiet_of_same (SOk5.sSome _ _ true _ B7)) | (go_at_call 55; refine Calls.quiet_of_same (SOk5.sIn _ _ _ true _ B8)))
          go_wp2
          go_roundw
          case rel => exact ⟨k + 1, by omega, by go_num, (unhide NB) _, G⟩
          case measure => simp [intOf]; omega
    · clear hb
      have F := hide ((unhide OK).of ⟨by rw [unhide HL]; omega, fun i hi => (unhide HG) i (by rw [unhide HL] at hi; omega)⟩)
      go_wp2
      go_ret
      exact ⟨by rw [unhide F]; rfl, unhide HB⟩
end Go.Proofs.YteccbaohfmhnfaaGreat.ITrade
namespace Go.Proofs.YteccbaohfmhnfaaGreat.Cmp
open Go.ChangeShapes Go.WideShapes Go.ChangeAt Go.RowKit Bals Triples
def cmpI (x y : Int) : Int := if x < y then -1 else if y < x then 1 else 0
theorem isNaN (x : Int) (w : World) : Calls Tryz.prog 159 #[.int .i64 x] w fun e w' => e = .returned (.bool false) ∧ w' = w := by
  go_enter Tryz.func159, Tryz.ntmps159
  go_wp2
  go_ret
  exact ⟨rfl, rfl⟩
theorem compare1 (x y : Int) (w : World) : Calls Tryz.prog 149 #[.int .i64 x, .int .i64 y] w fun e w' => e = .returned (.int .i64 (cmpI x y)) ∧ w' = w := by
  unfold cmpI
  by_cases h : x < y
  · go_enter Tryz.func149, Tryz.ntmps149
    go_wp2_with (go_at_call 159; refine (isNaN _ _).mono ?_; rintro e w1 ⟨rfl, rfl⟩)
    go_ret
    exact ⟨by simp [h], rfl⟩
  · by_cases k : y < x
    · go_enter Tryz.func149, Tryz.ntmps149
      go_wp2_with (go_at_call 159; refine (isNaN _ _).mono ?_; rintro e w1 ⟨rfl, rfl⟩)
      go_ret
      exact ⟨by simp [h, k], rfl⟩
    · go_enter Tryz.func149, Tryz.ntmps149
      go_wp2_with (go_at_call 159; refine (isNaN _ _).mono ?_; rintro e w1 ⟨rfl, rfl⟩)
      go_ret
      exact ⟨by simp [h, k], rfl⟩
/-- The first that is not 0. -/
def orI (x y : Int) : Int := if x = 0 then y else x
theorem orL (g : Nat) (x y : Int) (w : World) (h0 : w.cell? ⟨g, 0, none⟩ = some (.int .i64 x)) (h1 : w.cell? ⟨g, 1, none⟩ = some (.int .i64 y)) :
    Calls Tryz.prog 148 #[.slice (some ⟨g, 0, none⟩) 2 2] w fun e w' => e = .returned (.int .i64 (orI x y)) ∧ w' = w := by
  unfold orI
  go_enter Tryz.func148, Tryz.ntmps148
  go_wp2
  go_loop [5, 8] (fun _ i => ∃ (k : Nat), i = .int .i64 k ∧ (k = 0 ∨ (k = 1 ∧ x = 0) ∨ (k = 2 ∧ x = 0 ∧ y = 0))) (fun _ i => 2 - (intOf i).toNat)
  case atStart => exact ⟨0, rfl, .inl rfl⟩
  case round =>
    obtain ⟨k, rfl, hk⟩ := hrel
    rcases hk with rfl | ⟨rfl, rfl⟩ | ⟨rfl, rfl, rfl⟩
    · by_cases z : x = 0
      · subst z
        go_wp2
        go_round
        case rel => exact ⟨1, by go_num, .inr (.inl ⟨rfl, by trivial⟩)⟩
        case measure => simp [intOf]
      · go_wp2
        go_ret
        exact ⟨by simp [z], rfl⟩
    · by_cases z : y = 0
      · subst z
        go_wp2
        go_round
        case rel => exact ⟨2, by go_num, .inr (.inr ⟨rfl, by trivial, by trivial⟩)⟩
        case measure => simp [intOf]
      · go_wp2
        go_ret
        exact ⟨by simp, rfl⟩
    · go_wp2
      go_ret
      exact ⟨by simp, rfl⟩
/-- What two keys compare to. -/
def cmpK (a i b j : Int) : Int := orI (cmpI a b) (cmpI i j)
theorem cmpK_lt (a i b j : Int) : cmpK a i b j < 0 ↔ (a < b ∨ (a = b ∧ i < j)) := by
  unfold cmpK orI cmpI
  repeat (first | split | omega)
theorem cmpK_le (a i b j : Int) : cmpK a i b j ≤ 0 ↔ ¬ (b < a ∨ (b = a ∧ j < i)) := by
  unfold cmpK orI cmpI
  repeat (first | split | omega)
theorem grow_below (w : World) (q : Nat) (os : Array Obj) : Below w.heap.size w (Go.Sort.grow (w.drewN q) os) :=
  ⟨rfl, rfl, rfl, by simp [Go.Sort.grow, World.drewN], fun k hk => by
    show (w.heap ++ os)[k]? = w.heap[k]?
    rw [Array.getElem?_append_left hk]⟩
set_option maxRecDepth 100000 in
set_option maxHeartbeats 2000000 in
theorem compareG (a i b j : Int) (w : World) : Calls Tryz.prog 135 #[.agg #[.int .i64 a, .int .i64 i], .agg #[.int .i64 b, .int .i64 j]] w fun e w' => e = .returned (.int .i64 (cmpK a i b j)) ∧ ∃ q os, w' = Go.Sort.grow (w.drewN q) os := by
  unfold cmpK
  go_enter Tryz.func135, Tryz.ntmps135
  go_wp2_with fail
  have hu : ∃ os, (w.alloc (.cells #[.int .i64 a, .int .i64 i] 138)).alloc (.cells #[.int .i64 b, .int .i64 j] 138) = Go.Sort.grow w os := ⟨_, by rw [Go.Sort.alloc_eq_grow, Go.Sort.alloc_eq_grow, Go.Sort.grow_grow]⟩
  have c0 : ((w.alloc (.cells #[.int .i64 a, .int .i64 i] 138)).alloc (.cells #[.int .i64 b, .int .i64 j] 138)).cell? ⟨w.heap.size, 0, none⟩ = some (.int .i64 a) := by simp
  have c1 : ((w.alloc (.cells #[.int .i64 a, .int .i64 i] 138)).alloc (.cells #[.int .i64 b, .int .i64 j] 138)).cell? ⟨w.heap.size, 1, none⟩ = some (.int .i64 i) := by simp
  have c2 : ((w.alloc (.cells #[.int .i64 a, .int .i64 i] 138)).alloc (.cells #[.int .i64 b, .int .i64 j] 138)).cell? ⟨w.heap.size + 1, 0, none⟩ = some (.int .i64 b) := by simp
  have c3 : ((w.alloc (.cells #[.int .i64 a, .int .i64 i] 138)).alloc (.cells #[.int .i64 b, .int .i64 j] 138)).cell? ⟨w.heap.size + 1, 1, none⟩ = some (.int .i64 j) := by simp
  have HU := hide hu
  clear hu
  generalize (w.alloc (.cells #[.int .i64 a, .int .i64 i] 138)).alloc (.cells #[.int .i64 b, .int .i64 j] 138) = u at *
  generalize w.heap.size + 1 = h1 at *
  generalize w.heap.size = h0 at *
  go_region_held3 (fun w' => w'.cell? ⟨h0, 0, none⟩ = some (.int .i64 a) ∧ w'.cell? ⟨h0, 1, none⟩ = some (.int .i64 i) ∧ w'.cell? ⟨h1, 0, none⟩ = some (.int .i64 b) ∧ w'.cell? ⟨h1, 1, none⟩ = some (.int .i64 j)) (go_keep)
    (first | (go_at_call 149; refine (compare1 _ _ _).mono ?_; rintro e w1 ⟨rfl, rfl⟩) | (go_at_call 148; refine (orL u.heap.size (cmpI a b) (cmpI i j) _ ?_ ?_).mono ?_; (simp); (simp); rintro e w1 ⟨rfl, rfl⟩))
  all_goals (go_wp2; go_ret)
  all_goals (obtain ⟨os, rfl⟩ := unhide HU; exact ⟨rfl, 1, _, by rw [Go.Sort.alloc_eq_grow]; exact Go.Sort.grow_grow (w.drewN 1) _ _⟩)
theorem compareK (a i b j : Int) (w : World) : Calls Tryz.prog 135 #[.agg #[.int .i64 a, .int .i64 i], .agg #[.int .i64 b, .int .i64 j]] w fun e w' => e = .returned (.int .i64 (cmpK a i b j)) ∧ Below w.heap.size w w' :=
  (compareG a i b j w).mono fun _ _ ⟨he, q, os, hw⟩ => ⟨he, by rw [hw]; exact grow_below w q os⟩
set_option maxRecDepth 100000 in
theorem keyOk (a i : Int) (b : Bool) (w : World) (h : Says b (NoOk a ∧ NoOk i)) : Calls Tryz.prog 134 #[.agg #[.int .i64 a, .int .i64 i]] w fun e w' => e = .returned (.bool b) ∧ Below w.heap.size w w' := by
  have hb : Below w.heap.size w (w.alloc (.cells #[.int .i64 a, .int .i64 i] 138)) := (Below.refl _ _).alloc (Nat.le_refl _) _
  by_cases c1 : 1 ≤ a
  · by_cases c2 : a ≤ 1000
    · by_cases c3 : 1 ≤ i
      · by_cases c4 : i ≤ 1000
        · obtain rfl : b = true := h.of ⟨⟨c1, c2⟩, c3, c4⟩
          clear h
          go_enter Tryz.func134, Tryz.ntmps134
          go_wp2
          go_ret
          exact ⟨rfl, hb⟩
        · obtain rfl : b = false := h.not (fun r => by unfold NoOk at r; omega)
          clear h
          go_enter Tryz.func134, Tryz.ntmps134
          go_wp2
          go_ret
          exact ⟨rfl, hb⟩
      · obtain rfl : b = false := h.not (fun r => by unfold NoOk at r; omega)
        clear h
        go_enter Tryz.func134, Tryz.ntmps134
        go_wp2
        go_ret
        exact ⟨rfl, hb⟩
    · obtain rfl : b = false := h.not (fun r => by unfold NoOk at r; omega)
      clear h
      go_enter Tryz.func134, Tryz.ntmps134
      go_wp2
      go_ret
      exact ⟨rfl, hb⟩
  · obtain rfl : b = false := h.not (fun r => by unfold NoOk at r; omega)
    clear h
    go_enter Tryz.func134, Tryz.ntmps134
    go_wp2
    go_ret
    exact ⟨rfl, hb⟩
theorem iAmt (x : Int) (b : Bool) (w : World) (h : Says b (Amt x)) : Calls Tryz.prog 136 #[.int .i64 x] w fun e w' => e = .returned (.bool b) ∧ w' = w := by
  by_cases c1 : -1000000000000000 ≤ x
  · by_cases c2 : x ≤ 1000000000000000
    · obtain rfl : b = true := h.of ⟨c1, c2⟩
      clear h
      go_enter Tryz.func136, Tryz.ntmps136
      go_wp2
      go_ret
      exact ⟨rfl, rfl⟩
    · obtain rfl : b = false := h.not (fun r => by unfold Amt at r; omega)
      clear h
      go_enter Tryz.func136, Tryz.ntmps136
      go_wp2
      go_ret
      exact ⟨rfl, rfl⟩
  · obtain rfl : b = false := h.not (fun r => by unfold Amt at r; omega)
    clear h
    go_enter Tryz.func136, Tryz.ntmps136
    go_wp2
    go_ret
    exact ⟨rfl, rfl⟩
end Go.Proofs.YteccbaohfmhnfaaGreat.Cmp
namespace Go.Proofs.YteccbaohfmhnfaaGreat.IOk3
open Go.ChangeShapes Go.WideShapes Go.ChangeAt Go.RowKit Bals Triples Cmp
/-- The account and the instrument ahead of place k, and 0 ahead of the first one. -/
def ahead (ps : List T3) (k : Nat) : Int × Int := if k = 0 then (0, 0) else ((el3 ps (k - 1)).1, (el3 ps (k - 1)).2.1)
theorem ahead_next (ps : List T3) (k : Nat) : ahead ps (k + 1) = ((el3 ps k).1, (el3 ps k).2.1) := by unfold ahead; rw [if_neg (by omega)]; rfl
theorem row_iff (ps : List T3) (k : Nat) : RowOk ps k ↔ (NoOk (el3 ps k).1 ∧ NoOk (el3 ps k).2.1) ∧ ((ahead ps k).1 < (el3 ps k).1 ∨ ((ahead ps k).1 = (el3 ps k).1 ∧ (ahead ps k).2 < (el3 ps k).2.1)) ∧ Amt (el3 ps k).2.2 ∧ (el3 ps k).2.2 ≠ 0 := by
  unfold RowOk ahead
  by_cases k0 : k = 0
  · subst k0
    rw [if_pos rfl]
    constructor
    · rintro ⟨a, b, c, d, _⟩
      exact ⟨⟨a, b⟩, by unfold NoOk at a; simp only; omega, c, d⟩
    · rintro ⟨⟨a, b⟩, _, c, d⟩
      exact ⟨a, b, c, d, fun h => by omega⟩
  · rw [if_neg k0]
    constructor
    · rintro ⟨a, b, c, d, e⟩
      exact ⟨⟨a, b⟩, e (by omega), c, d⟩
    · rintro ⟨⟨a, b⟩, e, c, d⟩
      exact ⟨a, b, c, d, fun h => e⟩
set_option maxRecDepth 100000 in
set_option maxHeartbeats 4000000 in
theorem iOk (w : World) (g n cap : Nat) (ps : List T3) (ok : Bool) (hl : ps.length = n) (h20 : n ≤ 1048576) (hg : g < w.heap.size) (h : At3 w g ps) (hok : Says ok (Right ps)) :
    Calls Tryz.prog 112 #[.slice (some ⟨g, 0, none⟩) n cap] w fun e w' => e = .returned (.bool ok) ∧ Below w.heap.size w w' := by
  by_cases nn : (160 : Int) < (n : Int)
  · obtain rfl : ok = false := hok.not (fun r => by have := r.1; omega)
    clear hok h
    go_enter Tryz.func112, Tryz.ntmps112
    go_wp2
    go_ret
    exact ⟨rfl, Below.refl _ _⟩
  have H := hide h
  clear h
  go_enter Tryz.func112, Tryz.ntmps112
  go_wp2
  go_loopw [5, 6, 13] (fun _ _ i wr => ∃ (k : Nat) (bf : Int × Int), k ≤ n ∧ i = .int .i64 k ∧ Hid (ahead ps k = bf) ∧ Below w.heap.size w wr ∧ Pairs.Own 138 wr w.heap.size w.heap.size 1 1 [bf] ∧ Hid (∀ i, i < k → RowOk ps i)) (fun _ _ i _ => n - (intOf i).toNat)
  case atStart =>
    exact ⟨0, (0, 0), by omega, rfl, hide rfl, (Below.refl _ _).alloc (Nat.le_refl _) _, World.ownsRow_lit w #[.int .i64 0, .int .i64 0] 1 (Nat.le_refl _) (by decide) rfl, hide (fun i hi => absurd hi (by omega))⟩
  case round =>
    obtain ⟨k, ⟨p, q⟩, hk, rfl, HP, hb, ho, HG⟩ := hrel
    by_cases t : k < n
    · have hA := (unhide H).below hb hg
      obtain ⟨e1, e2, e3⟩ := hA k (by omega)
      have gs : w.heap.size < wr.heap.size := ho.lt.2
      clear hA
      have HB := hide hb
      clear hb
      have HO := hide ho
      clear ho
      have ROW := hide (row_iff ps k)
      rw [unhide HP] at ROW
      obtain ⟨b1, B1⟩ := says_of (NoOk (el3 ps k).1 ∧ NoOk (el3 ps k).2.1)
      obtain ⟨b3, B3⟩ := says_of (Amt (el3 ps k).2.2)
      have AN := hide (ahead_next ps k)
      have BAD := hide (show ¬ RowOk ps k → ok = false from fun hr => hok.not (fun r => hr (r.2 k (by omega))))
      have GOOD := hide (show RowOk ps k → ∀ i, i < k + 1 → RowOk ps i from fun hr i hi => by
        by_cases e : i = k
        · subst e; exact hr
        · exact (unhide HG) i (by omega))
      generalize (el3 ps k).1 = x at *
      generalize (el3 ps k).2.1 = y at *
      generalize (el3 ps k).2.2 = z at *
      go_wp2_with fail
      refine (keyOk x y b1 _ B1).mono ?_
      rintro e w1 ⟨rfl, n1⟩
      have s1 := n1.size
      have n2 : Below wr.heap.size wr ((wr.alloc (.cells #[.int .i64 x, .int .i64 y, .int .i64 z] 102)).alloc (.cells #[.int .i64 x, .int .i64 y] 138)) := ((Below.refl _ _).alloc (Nat.le_refl _) _).alloc (by simp) _
      have nb := next n2 n1
      have f0 : w1.cell? ⟨wr.heap.size + 1, 0, none⟩ = some (.int .i64 x) := (n1.cell (p := ⟨wr.heap.size + 1, 0, none⟩) (by simp)).trans (by simp)
      have f1 : w1.cell? ⟨wr.heap.size + 1, 1, none⟩ = some (.int .i64 y) := (n1.cell (p := ⟨wr.heap.size + 1, 1, none⟩) (by simp)).trans (by simp)
      have f2 : w1.cell? ⟨wr.heap.size, 2, none⟩ = some (.int .i64 z) := (n1.cell (p := ⟨wr.heap.size, 2, none⟩) (by simp; omega)).trans (by simp)
      have NB := hide nb
      have O1 := hide ((unhide HO).below nb (unhide HO).lt.2)
      simp only [World.size_alloc] at s1
      clear n1 n2 nb e1 e2 e3
      cases b1
      · have OKF := hide ((unhide BAD) (fun hr => B1.no ((unhide ROW).1 hr).1))
        clear BAD GOOD ROW
        go_wp2
        go_ret
        exact ⟨by rw [unhide OKF]; rfl, next (unhide HB) (unhide NB)⟩
      obtain ⟨o0, o1⟩ := (unhide O1).at 0 (by simp)
      have o0 : w1.cell? ⟨w.heap.size, 0, none⟩ = some (.int .i64 p) := o0
      have o1 : w1.cell? ⟨w.heap.size, 1, none⟩ = some (.int .i64 q) := o1
      go_wp2_with fail
      refine (compareK x y p q _).mono ?_
      rintro e w2 ⟨rfl, n2⟩
      have s2 := n2.size
      have f0 := (n2.cell (p := ⟨wr.heap.size + 1, 0, none⟩) (show wr.heap.size + 1 < _ by omega)).trans f0
      have f1 := (n2.cell (p := ⟨wr.heap.size + 1, 1, none⟩) (show wr.heap.size + 1 < _ by omega)).trans f1
      have f2 := (n2.cell (p := ⟨wr.heap.size, 2, none⟩) (show wr.heap.size < _ by omega)).trans f2
      have O2 := hide ((unhide O1).below n2 (unhide O1).lt.2)
      have NB2 := hide (next (unhide NB) n2)
      have CLE := hide (cmpK_le x y p q)
      generalize cmpK x y p q = c at *
      clear n2 o0 o1
      by_cases c0 : c ≤ 0
      · have OKF := hide ((unhide BAD) (fun hr => (unhide CLE).1 c0 ((unhide ROW).1 hr).2.1))
        clear BAD GOOD ROW CLE
        go_wp2
        go_ret
        exact ⟨by rw [unhide OKF]; rfl, next (unhide HB) (unhide NB2)⟩
      go_wp2_with fail
      refine (iAmt z b3 _ B3).mono ?_
      rintro e w3 ⟨rfl, rfl⟩
      cases b3
      · have OKF := hide ((unhide BAD) (fun hr => B3.no ((unhide ROW).1 hr).2.2.1))
        clear BAD GOOD ROW CLE
        go_wp2
        go_ret
        exact ⟨by rw [unhide OKF]; rfl, next (unhide HB) (unhide NB2)⟩
      by_cases z0 : z = 0
      · have OKF := hide ((unhide BAD) (fun hr => ((unhide ROW).1 hr).2.2.2 z0))
        clear BAD GOOD ROW CLE
        subst z0
        go_wp2
        go_ret
        exact ⟨by rw [unhide OKF]; rfl, next (unhide HB) (unhide NB2)⟩
      have zb : (z == 0) = false := by simpa using z0
      have GO := hide ((unhide GOOD) ((unhide ROW).2 ⟨B1.yes, Classical.byContradiction (fun h => by have := (unhide CLE).2 h; omega), B3.yes, z0⟩))
      clear BAD GOOD ROW CLE
      have S0 := (unhide O2).set0 0 x
      have S1 := S0.1.set1 0 y
      obtain ⟨d0, d1⟩ := (unhide O2).at 0 (by simp)
      have d0 : w3.cell? ⟨w.heap.size, 0, none⟩ = some (.int .i64 p) := d0
      have d1 : w3.cell? ⟨w.heap.size, 1, none⟩ = some (.int .i64 q) := d1
      have r0 : w3.frozen? ⟨w.heap.size, 0, none⟩ = false := (unhide O2).free 0
      have r1 : w3.frozen? ⟨w.heap.size, 1, none⟩ = false := (unhide O2).free 1
      have HS := hide S1.1
      have BB := hide (((next (unhide HB) (unhide NB2)).setCell (p := ⟨w.heap.size, 0, none⟩) (Nat.le_refl _) (.int .i64 x)).setCell (p := ⟨w.heap.size, 1, none⟩) (Nat.le_refl _) (.int .i64 y))
      clear S0 S1
      go_wp2
      go_roundw
      case rel => exact ⟨k + 1, (x, y), by omega, by go_num, AN, unhide BB, unhide HS, GO⟩
      case measure => simp [intOf]; omega
    · obtain rfl : k = n := by omega
      obtain rfl : ok = true := hok.of ⟨by omega, by rw [hl]; exact unhide HG⟩
      have HB := hide hb
      clear hb hok ho
      go_wp2
      go_ret
      exact ⟨rfl, unhide HB⟩
end Go.Proofs.YteccbaohfmhnfaaGreat.IOk3
namespace Go.Proofs.YteccbaohfmhnfaaGreat.CmpL
open Go.ChangeShapes Go.WideShapes Go.ChangeAt Go.RowKit Tup5 Lots Takes
def cmpI (x y : Int) : Int := if x < y then -1 else if y < x then 1 else 0
theorem isNaN (x : Int) (w : World) : Calls Tryz.prog 159 #[.int .i64 x] w fun e w' => e = .returned (.bool false) ∧ w' = w := by
  go_enter Tryz.func159, Tryz.ntmps159
  go_wp2
  go_ret
  exact ⟨rfl, rfl⟩
theorem compare1 (x y : Int) (w : World) : Calls Tryz.prog 149 #[.int .i64 x, .int .i64 y] w fun e w' => e = .returned (.int .i64 (cmpI x y)) ∧ w' = w := by
  unfold cmpI
  by_cases h : x < y
  · go_enter Tryz.func149, Tryz.ntmps149
    go_wp2_with (go_at_call 159; refine (isNaN _ _).mono ?_; rintro e w1 ⟨rfl, rfl⟩)
    go_ret
    exact ⟨by simp [h], rfl⟩
  · by_cases k : y < x
    · go_enter Tryz.func149, Tryz.ntmps149
      go_wp2_with (go_at_call 159; refine (isNaN _ _).mono ?_; rintro e w1 ⟨rfl, rfl⟩)
      go_ret
      exact ⟨by simp [h, k], rfl⟩
    · go_enter Tryz.func149, Tryz.ntmps149
      go_wp2_with (go_at_call 159; refine (isNaN _ _).mono ?_; rintro e w1 ⟨rfl, rfl⟩)
      go_ret
      exact ⟨by simp [h, k], rfl⟩
/-- The first that is not 0. -/
def orI (x y : Int) : Int := if x = 0 then y else x
theorem orL (g : Nat) (x y : Int) (w : World) (h0 : w.cell? ⟨g, 0, none⟩ = some (.int .i64 x)) (h1 : w.cell? ⟨g, 1, none⟩ = some (.int .i64 y)) :
    Calls Tryz.prog 148 #[.slice (some ⟨g, 0, none⟩) 2 2] w fun e w' => e = .returned (.int .i64 (orI x y)) ∧ w' = w := by
  unfold orI
  go_enter Tryz.func148, Tryz.ntmps148
  go_wp2
  go_loop [5, 8] (fun _ i => ∃ (k : Nat), i = .int .i64 k ∧ (k = 0 ∨ (k = 1 ∧ x = 0) ∨ (k = 2 ∧ x = 0 ∧ y = 0))) (fun _ i => 2 - (intOf i).toNat)
  case atStart => exact ⟨0, rfl, .inl rfl⟩
  case round =>
    obtain ⟨k, rfl, hk⟩ := hrel
    rcases hk with rfl | ⟨rfl, rfl⟩ | ⟨rfl, rfl, rfl⟩
    · by_cases z : x = 0
      · subst z
        go_wp2
        go_round
        case rel => exact ⟨1, by go_num, .inr (.inl ⟨rfl, by trivial⟩)⟩
        case measure => simp [intOf]
      · go_wp2
        go_ret
        exact ⟨by simp [z], rfl⟩
    · by_cases z : y = 0
      · subst z
        go_wp2
        go_round
        case rel => exact ⟨2, by go_num, .inr (.inr ⟨rfl, by trivial, by trivial⟩)⟩
        case measure => simp [intOf]
      · go_wp2
        go_ret
        exact ⟨by simp, rfl⟩
    · go_wp2
      go_ret
      exact ⟨by simp, rfl⟩
/-- What two keys compare to. -/
def cmpK (a i b j : Int) : Int := orI (cmpI a b) (cmpI i j)
theorem grow_below (w : World) (q : Nat) (os : Array Obj) : Below w.heap.size w (Go.Sort.grow (w.drewN q) os) :=
  ⟨rfl, rfl, rfl, by simp [Go.Sort.grow, World.drewN], fun k hk => by
    show (w.heap ++ os)[k]? = w.heap[k]?
    rw [Array.getElem?_append_left hk]⟩
set_option maxRecDepth 100000 in
set_option maxHeartbeats 2000000 in
theorem compareG (a i b j : Int) (w : World) : Calls Tryz.prog 135 #[.agg #[.int .i64 a, .int .i64 i], .agg #[.int .i64 b, .int .i64 j]] w fun e w' => e = .returned (.int .i64 (cmpK a i b j)) ∧ ∃ q os, w' = Go.Sort.grow (w.drewN q) os := by
  unfold cmpK
  go_enter Tryz.func135, Tryz.ntmps135
  go_wp2_with fail
  have hu : ∃ os, (w.alloc (.cells #[.int .i64 a, .int .i64 i] 138)).alloc (.cells #[.int .i64 b, .int .i64 j] 138) = Go.Sort.grow w os := ⟨_, by rw [Go.Sort.alloc_eq_grow, Go.Sort.alloc_eq_grow, Go.Sort.grow_grow]⟩
  have c0 : ((w.alloc (.cells #[.int .i64 a, .int .i64 i] 138)).alloc (.cells #[.int .i64 b, .int .i64 j] 138)).cell? ⟨w.heap.size, 0, none⟩ = some (.int .i64 a) := by simp
  have c1 : ((w.alloc (.cells #[.int .i64 a, .int .i64 i] 138)).alloc (.cells #[.int .i64 b, .int .i64 j] 138)).cell? ⟨w.heap.size, 1, none⟩ = some (.int .i64 i) := by simp
  have c2 : ((w.alloc (.cells #[.int .i64 a, .int .i64 i] 138)).alloc (.cells #[.int .i64 b, .int .i64 j] 138)).cell? ⟨w.heap.size + 1, 0, none⟩ = some (.int .i64 b) := by simp
  have c3 : ((w.alloc (.cells #[.int .i64 a, .int .i64 i] 138)).alloc (.cells #[.int .i64 b, .int .i64 j] 138)).cell? ⟨w.heap.size + 1, 1, none⟩ = some (.int .i64 j) := by simp
  have HU := hide hu
  clear hu
  generalize (w.alloc (.cells #[.int .i64 a, .int .i64 i] 138)).alloc (.cells #[.int .i64 b, .int .i64 j] 138) = u at *
  generalize w.heap.size + 1 = h1 at *
  generalize w.heap.size = h0 at *
  go_region_held3 (fun w' => w'.cell? ⟨h0, 0, none⟩ = some (.int .i64 a) ∧ w'.cell? ⟨h0, 1, none⟩ = some (.int .i64 i) ∧ w'.cell? ⟨h1, 0, none⟩ = some (.int .i64 b) ∧ w'.cell? ⟨h1, 1, none⟩ = some (.int .i64 j)) (go_keep)
    (first | (go_at_call 149; refine (compare1 _ _ _).mono ?_; rintro e w1 ⟨rfl, rfl⟩) | (go_at_call 148; refine (orL u.heap.size (cmpI a b) (cmpI i j) _ ?_ ?_).mono ?_; (simp); (simp); rintro e w1 ⟨rfl, rfl⟩))
  all_goals (go_wp2; go_ret)
  all_goals (obtain ⟨os, rfl⟩ := unhide HU; exact ⟨rfl, 1, _, by rw [Go.Sort.alloc_eq_grow]; exact Go.Sort.grow_grow (w.drewN 1) _ _⟩)
theorem compareK (a i b j : Int) (w : World) : Calls Tryz.prog 135 #[.agg #[.int .i64 a, .int .i64 i], .agg #[.int .i64 b, .int .i64 j]] w fun e w' => e = .returned (.int .i64 (cmpK a i b j)) ∧ Below w.heap.size w w' :=
  (compareG a i b j w).mono fun _ _ ⟨he, q, os, hw⟩ => ⟨he, by rw [hw]; exact grow_below w q os⟩
set_option maxRecDepth 100000 in
theorem keyOk (a i : Int) (b : Bool) (w : World) (h : Says b (NoOk a ∧ NoOk i)) : Calls Tryz.prog 134 #[.agg #[.int .i64 a, .int .i64 i]] w fun e w' => e = .returned (.bool b) ∧ Below w.heap.size w w' := by
  have hb : Below w.heap.size w (w.alloc (.cells #[.int .i64 a, .int .i64 i] 138)) := (Below.refl _ _).alloc (Nat.le_refl _) _
  by_cases c1 : 1 ≤ a
  · by_cases c2 : a ≤ 1000
    · by_cases c3 : 1 ≤ i
      · by_cases c4 : i ≤ 1000
        · obtain rfl : b = true := h.of ⟨⟨c1, c2⟩, c3, c4⟩
          clear h
          go_enter Tryz.func134, Tryz.ntmps134
          go_wp2
          go_ret
          exact ⟨rfl, hb⟩
        · obtain rfl : b = false := h.not (fun r => by unfold NoOk at r; omega)
          clear h
          go_enter Tryz.func134, Tryz.ntmps134
          go_wp2
          go_ret
          exact ⟨rfl, hb⟩
      · obtain rfl : b = false := h.not (fun r => by unfold NoOk at r; omega)
        clear h
        go_enter Tryz.func134, Tryz.ntmps134
        go_wp2
        go_ret
        exact ⟨rfl, hb⟩
    · obtain rfl : b = false := h.not (fun r => by unfold NoOk at r; omega)
      clear h
      go_enter Tryz.func134, Tryz.ntmps134
      go_wp2
      go_ret
      exact ⟨rfl, hb⟩
  · obtain rfl : b = false := h.not (fun r => by unfold NoOk at r; omega)
    clear h
    go_enter Tryz.func134, Tryz.ntmps134
    go_wp2
    go_ret
    exact ⟨rfl, hb⟩
theorem iAmt (x : Int) (b : Bool) (w : World) (h : Says b (Amt x)) : Calls Tryz.prog 136 #[.int .i64 x] w fun e w' => e = .returned (.bool b) ∧ w' = w := by
  by_cases c1 : -1000000000000000 ≤ x
  · by_cases c2 : x ≤ 1000000000000000
    · obtain rfl : b = true := h.of ⟨c1, c2⟩
      clear h
      go_enter Tryz.func136, Tryz.ntmps136
      go_wp2
      go_ret
      exact ⟨rfl, rfl⟩
    · obtain rfl : b = false := h.not (fun r => by unfold Amt at r; omega)
      clear h
      go_enter Tryz.func136, Tryz.ntmps136
      go_wp2
      go_ret
      exact ⟨rfl, rfl⟩
  · obtain rfl : b = false := h.not (fun r => by unfold Amt at r; omega)
    clear h
    go_enter Tryz.func136, Tryz.ntmps136
    go_wp2
    go_ret
    exact ⟨rfl, rfl⟩
/-- Whether two keys are one. -/
theorem eqKey (a i b j : Int) (w : World) : (Op.equalIn 10000 138 (.agg #[.int .i64 a, .int .i64 i]) (.agg #[.int .i64 b, .int .i64 j])).run Tryz.prog w = .ok (a == b && i == j) w := by
  have u3 := Tryz.underlying3
  have a3 := Tryz.isAgg3
  have z3 := Tryz.sizeOf3
  have hS : Tryz.prog.underlying 138 = some (.struct (Tryz.prog.fieldsOf 138)) := by kernel_rfl
  have hp : Tryz.prog.stoodInHeld 138 = false := by kernel_rfl
  rw [show (10000 : Nat) = 9999 + 1 from rfl, run_equalIn_agg w 9999 138 _ _ hS hp]
  simp only [Program.fieldsOf, Tryz.underlying138]
  go_simp
  by_cases h1 : a = b <;> by_cases h2 : i = j <;> simp [h1, h2]
theorem guardKey : Tryz.prog.eqGuardType Tryz.prog.depth 138 = false := by kernel_rfl
/-- The key of a lot. -/
theorem keyL (x0 x1 x2 x3 x4 : Int) (w : World) : Calls Tryz.prog 117 #[.agg #[.int .i64 x0, .int .i64 x1, .int .i64 x2, .int .i64 x3, .int .i64 x4]] w fun e w' => e = .returned (.agg #[.int .i64 x0, .int .i64 x1]) ∧ Below w.heap.size w w' := by
  go_enter Tryz.func117, Tryz.ntmps117
  go_wp2
  refine bodyPost_ret (v := .agg #[.int .i64 x0, .int .i64 x1]) (by simp [results, Tryz.results117, go_sem]) rfl ⟨rfl, by repeat (first | exact Below.refl _ _ | refine Below.alloc ?_ (by simp; try omega) _)⟩
theorem at0 {w : World} {g : Nat} {x0 x1 x2 x3 x4 : Int} (h : Holds5 w g 0 (x0, x1, x2, x3, x4)) : w.cell? ⟨g, 0, none⟩ = some (.int .i64 x0) ∧ w.cell? ⟨g, 1, none⟩ = some (.int .i64 x1) ∧ w.cell? ⟨g, 2, none⟩ = some (.int .i64 x2) ∧ w.cell? ⟨g, 3, none⟩ = some (.int .i64 x3) ∧ w.cell? ⟨g, 4, none⟩ = some (.int .i64 x4) := h
/-- What two lots compare to. -/
def cmpL (p q : T5) : Int := orI (cmpK p.1 p.2.1 q.1 q.2.1) (cmpI p.2.2.1 q.2.2.1)
theorem cmpL_lt (p q : T5) : cmpL p q < 0 ↔ Bef p q := by
  unfold cmpL cmpK orI cmpI Bef
  repeat (first | split | omega)
theorem cmpL_le (p q : T5) : cmpL p q ≤ 0 ↔ ¬ Bef q p := by
  unfold cmpL cmpK orI cmpI Bef
  repeat (first | split | omega)
set_option maxRecDepth 100000 in
set_option maxHeartbeats 2000000 in
theorem compareLot (x0 x1 x2 x3 x4 y0 y1 y2 y3 y4 : Int) (w : World) : Calls Tryz.prog 130 #[.agg #[.int .i64 x0, .int .i64 x1, .int .i64 x2, .int .i64 x3, .int .i64 x4], .agg #[.int .i64 y0, .int .i64 y1, .int .i64 y2, .int .i64 y3, .int .i64 y4]] w fun e w' => e = .returned (.int .i64 (cmpL (x0, x1, x2, x3, x4) (y0, y1, y2, y3, y4))) ∧ Below w.heap.size w w' := by
  unfold cmpL
  have X := hide (show Holds5 ((w.alloc (.cells #[.int .i64 x0, .int .i64 x1, .int .i64 x2, .int .i64 x3, .int .i64 x4] 97)).alloc (.cells #[.int .i64 y0, .int .i64 y1, .int .i64 y2, .int .i64 y3, .int .i64 y4] 97)) w.heap.size 0 (x0, x1, x2, x3, x4) from by unfold Holds5; simp)
  have Y := hide (show Holds5 ((w.alloc (.cells #[.int .i64 x0, .int .i64 x1, .int .i64 x2, .int .i64 x3, .int .i64 x4] 97)).alloc (.cells #[.int .i64 y0, .int .i64 y1, .int .i64 y2, .int .i64 y3, .int .i64 y4] 97)) (w.heap.size + 1) 0 (y0, y1, y2, y3, y4) from by unfold Holds5; simp)
  have B := hide (show Below w.heap.size w ((w.alloc (.cells #[.int .i64 x0, .int .i64 x1, .int .i64 x2, .int .i64 x3, .int .i64 x4] 97)).alloc (.cells #[.int .i64 y0, .int .i64 y1, .int .i64 y2, .int .i64 y3, .int .i64 y4] 97)) from ((Below.refl _ _).alloc (Nat.le_refl _) _).alloc (by simp) _)
  have hx : w.heap.size < ((w.alloc (.cells #[.int .i64 x0, .int .i64 x1, .int .i64 x2, .int .i64 x3, .int .i64 x4] 97)).alloc (.cells #[.int .i64 y0, .int .i64 y1, .int .i64 y2, .int .i64 y3, .int .i64 y4] 97)).heap.size := by simp; omega
  have hy : w.heap.size + 1 < ((w.alloc (.cells #[.int .i64 x0, .int .i64 x1, .int .i64 x2, .int .i64 x3, .int .i64 x4] 97)).alloc (.cells #[.int .i64 y0, .int .i64 y1, .int .i64 y2, .int .i64 y3, .int .i64 y4] 97)).heap.size := by simp
  go_enter Tryz.func130, Tryz.ntmps130
  go_wp2_with fail
  generalize (w.alloc (.cells #[.int .i64 x0, .int .i64 x1, .int .i64 x2, .int .i64 x3, .int .i64 x4] 97)).alloc (.cells #[.int .i64 y0, .int .i64 y1, .int .i64 y2, .int .i64 y3, .int .i64 y4] 97) = u at *
  obtain ⟨h1, H1⟩ : ∃ h1, Hid (h1 = w.heap.size + 1) := ⟨_, rfl⟩
  obtain ⟨h0, H0⟩ : ∃ h0, Hid (h0 = w.heap.size) := ⟨_, rfl⟩
  rw [← unhide H1] at hy Y ⊢
  rw [← unhide H0] at hx X ⊢
  obtain ⟨c0, c1, c2, c3, c4⟩ := at0 (unhide X)
  obtain ⟨e0, e1, e2, e3, e4⟩ := at0 (unhide Y)
  have bb : Below u.heap.size u u.drew := (Below.refl _ _).drew
  go_region_held3 (fun w' => w'.cell? ⟨h0, 0, none⟩ = some (.int .i64 x0) ∧ w'.cell? ⟨h0, 1, none⟩ = some (.int .i64 x1) ∧ w'.cell? ⟨h0, 2, none⟩ = some (.int .i64 x2) ∧ w'.cell? ⟨h0, 3, none⟩ = some (.int .i64 x3) ∧ w'.cell? ⟨h0, 4, none⟩ = some (.int .i64 x4) ∧ w'.cell? ⟨h1, 0, none⟩ = some (.int .i64 y0) ∧ w'.cell? ⟨h1, 1, none⟩ = some (.int .i64 y1) ∧ w'.cell? ⟨h1, 2, none⟩ = some (.int .i64 y2) ∧ w'.cell? ⟨h1, 3, none⟩ = some (.int .i64 y3) ∧ w'.cell? ⟨h1, 4, none⟩ = some (.int .i64 y4)) (go_keep)
    (first | (go_at_call 117; refine (keyL _ _ _ _ _ _).mono ?_; rintro e w1 ⟨rfl, n1⟩; replace bb := next bb n1; obtain ⟨c0, c1, c2, c3, c4⟩ := at0 ((unhide X).below bb hx); obtain ⟨e0, e1, e2, e3, e4⟩ := at0 ((unhide Y).below bb hy); clear n1) | (go_at_call 135; refine (compareK _ _ _ _ _).mono ?_; rintro e w1 ⟨rfl, n1⟩; replace bb := next bb n1; obtain ⟨c0, c1, c2, c3, c4⟩ := at0 ((unhide X).below bb hx); obtain ⟨e0, e1, e2, e3, e4⟩ := at0 ((unhide Y).below bb hy); clear n1) | (go_at_call 149; refine (compare1 _ _ _).mono ?_; rintro e w1 ⟨rfl, rfl⟩) | (go_at_call 148; refine (orL _ (cmpK x0 x1 y0 y1) (cmpI x2 y2) _ ?_ ?_).mono ?_; (simp); (simp); rintro e w1 ⟨rfl, rfl⟩))
  all_goals (go_wp2; go_ret)
  all_goals exact ⟨rfl, (next (unhide B) bb).alloc (next (unhide B) bb).size _⟩
set_option maxRecDepth 100000 in
set_option maxHeartbeats 2000000 in
theorem lotOk (x0 x1 x2 x3 x4 : Int) (b : Bool) (w : World) (hb : Says b (One (x0, x1, x2, x3, x4))) : Calls Tryz.prog 137 #[.agg #[.int .i64 x0, .int .i64 x1, .int .i64 x2, .int .i64 x3, .int .i64 x4]] w fun e w' => e = .returned (.bool b) ∧ Below w.heap.size w w' := by
  obtain ⟨b1, B1⟩ := says_of (NoOk x0 ∧ NoOk x1)
  have X := hide (show Holds5 (w.alloc (.cells #[.int .i64 x0, .int .i64 x1, .int .i64 x2, .int .i64 x3, .int .i64 x4] 97)) w.heap.size 0 (x0, x1, x2, x3, x4) from by unfold Holds5; simp)
  have B := hide (show Below w.heap.size w (w.alloc (.cells #[.int .i64 x0, .int .i64 x1, .int .i64 x2, .int .i64 x3, .int .i64 x4] 97)) from (Below.refl _ _).alloc (Nat.le_refl _) _)
  have hx : w.heap.size < (w.alloc (.cells #[.int .i64 x0, .int .i64 x1, .int .i64 x2, .int .i64 x3, .int .i64 x4] 97)).heap.size := by simp
  go_enter Tryz.func137, Tryz.ntmps137
  go_wp2_with fail
  refine (keyL x0 x1 x2 x3 x4 _).mono ?_
  rintro e w1 ⟨rfl, n1⟩
  have X1 := hide ((unhide X).below n1 hx)
  have hx1 : w.heap.size < w1.heap.size := Nat.lt_of_lt_of_le hx n1.size
  have N1 := hide (next (unhide B) n1)
  clear X B hx n1
  go_wp2_with fail
  refine (keyOk x0 x1 b1 _ B1).mono ?_
  rintro e w2 ⟨rfl, n2⟩
  obtain ⟨c0, c1, c2, c3, c4⟩ := at0 ((unhide X1).below n2 hx1)
  have N2 := hide (next (unhide N1) n2)
  clear X1 N1 n2
  cases b1
  · obtain rfl : b = false := hb.not (fun r => B1.no ⟨r.1, r.2.1⟩)
    go_wp2
    go_ret
    exact ⟨rfl, unhide N2⟩
  by_cases t0 : 1 ≤ x2
  rotate_left
  · obtain rfl : b = false := hb.not (fun r => t0 r.2.2.1.1)
    clear hb
    go_wp2
    go_ret
    exact ⟨rfl, unhide N2⟩
  by_cases t1 : x2 ≤ 1000000000
  rotate_left
  · obtain rfl : b = false := hb.not (fun r => t1 r.2.2.1.2)
    clear hb
    go_wp2
    go_ret
    exact ⟨rfl, unhide N2⟩
  by_cases t2 : 1 ≤ x3
  rotate_left
  · obtain rfl : b = false := hb.not (fun r => t2 r.2.2.2.1.1)
    clear hb
    go_wp2
    go_ret
    exact ⟨rfl, unhide N2⟩
  by_cases t3 : x3 ≤ 1000000000000000
  rotate_left
  · obtain rfl : b = false := hb.not (fun r => t3 r.2.2.2.1.2)
    clear hb
    go_wp2
    go_ret
    exact ⟨rfl, unhide N2⟩
  by_cases t4 : 0 ≤ x4
  rotate_left
  · obtain rfl : b = false := hb.not (fun r => t4 r.2.2.2.2.1)
    clear hb
    go_wp2
    go_ret
    exact ⟨rfl, unhide N2⟩
  by_cases t5 : x4 ≤ 1000000000000000
  rotate_left
  · obtain rfl : b = false := hb.not (fun r => t5 r.2.2.2.2.2)
    clear hb
    go_wp2
    go_ret
    exact ⟨by rw [decide_eq_false (show ¬ x4 ≤ 1000000000000000 by omega)]; rfl, unhide N2⟩
  obtain rfl : b = true := hb.of ⟨B1.yes.1, B1.yes.2, ⟨t0, t1⟩, ⟨t2, t3⟩, t4, t5⟩
  clear hb
  go_wp2
  go_ret
  exact ⟨rfl, unhide N2⟩
end Go.Proofs.YteccbaohfmhnfaaGreat.CmpL
namespace Go.Proofs.YteccbaohfmhnfaaGreat.IOk5
open Go.ChangeShapes Go.WideShapes Go.ChangeAt Go.RowKit Tup5 Lots Takes CmpL Quieter
/-- The lot ahead of place k, and nothing ahead of the first one. -/
def ahead (ps : List T5) (k : Nat) : T5 := if k = 0 then (0, 0, 0, 0, 0) else el5 ps (k - 1)
theorem ahead_next (ps : List T5) (k : Nat) : ahead ps (k + 1) = el5 ps k := by unfold ahead; rw [if_neg (by omega)]; rfl
theorem row_iff (ps : List T5) (k : Nat) : RowOk ps k ↔ One (el5 ps k) ∧ Bef (ahead ps k) (el5 ps k) := by
  unfold RowOk ahead
  by_cases k0 : k = 0
  · subst k0
    rw [if_pos rfl]
    constructor
    · rintro ⟨a, _⟩
      exact ⟨a, by have := a.1; unfold NoOk at this; unfold Bef; simp only; omega⟩
    · rintro ⟨a, _⟩
      exact ⟨a, fun h => by omega⟩
  · rw [if_neg k0]
    exact ⟨fun h => ⟨h.1, h.2 (by omega)⟩, fun h => ⟨h.1, fun _ => h.2⟩⟩
theorem own_drewN {e : TypeId} {w : World} {base g n cap : Nat} {ps : List T5} (h : Own5 e w base g n cap ps) (m : Nat) : Own5 e (w.drewN m) base g n cap ps := h
theorem holds_drewN {w : World} {g o : Nat} {p : T5} (h : Holds5 w g o p) (m : Nat) : Holds5 (w.drewN m) g o p := h
/-- A lot that is stored whole into a block of its own. -/
theorem store5 {e : TypeId} {w : World} {base g : Nat} {p : T5} (h : Own5 e w base g 1 1 [p]) (x0 x1 x2 x3 x4 : Int) :
    Own5 e (((((w.setCell ⟨g, 0, none⟩ (.int .i64 x0)).setCell ⟨g, 1, none⟩ (.int .i64 x1)).setCell ⟨g, 2, none⟩ (.int .i64 x2)).setCell ⟨g, 3, none⟩ (.int .i64 x3)).setCell ⟨g, 4, none⟩ (.int .i64 x4)) base g 1 1 [(x0, x1, x2, x3, x4)] ∧
      w.grownBy (((((w.setCell ⟨g, 0, none⟩ (.int .i64 x0)).setCell ⟨g, 1, none⟩ (.int .i64 x1)).setCell ⟨g, 2, none⟩ (.int .i64 x2)).setCell ⟨g, 3, none⟩ (.int .i64 x3)).setCell ⟨g, 4, none⟩ (.int .i64 x4)) (some g) := by
  have s0 := h.set0 0 x0
  have s1 := s0.1.set1 0 x1
  have s2 := s1.1.set2 0 x2
  have s3 := s2.1.set3 0 x3
  have s4 := s3.1.set4 0 x4
  exact ⟨s4.1, grown_trans (grown_trans (grown_trans (grown_trans s0.2 s1.2) s2.2) s3.2) s4.2⟩
set_option maxRecDepth 100000 in
set_option maxHeartbeats 4000000 in
theorem iOk (w : World) (g n cap : Nat) (ps : List T5) (ok : Bool) (hl : ps.length = n) (h20 : n ≤ 1048576) (hg : g < w.heap.size) (h : At5 w g ps) (hok : Says ok (Right ps)) :
    Calls Tryz.prog 113 #[.slice (some ⟨g, 0, none⟩) n cap] w fun e w' => e = .returned (.bool ok) ∧ Below w.heap.size w w' := by
  by_cases nn : (120 : Int) < (n : Int)
  · obtain rfl : ok = false := hok.not (fun r => by have := r.1; omega)
    clear hok h
    go_enter Tryz.func113, Tryz.ntmps113
    go_wp2
    go_ret
    exact ⟨rfl, Below.refl _ _⟩
  have H := hide h
  clear h
  have O0 := hide (show Own5 97 (w.alloc (.cells #[.int .i64 0, .int .i64 0, .int .i64 0, .int .i64 0, .int .i64 0] 97)) w.heap.size w.heap.size 1 1 [(0, 0, 0, 0, 0)] from lit51 97 w w.heap.size 0 0 0 0 0 (Nat.le_refl _))
  go_enter Tryz.func113, Tryz.ntmps113
  go_wp2
  go_loopw [4, 5, 7, 14] (fun q c _ i wr => ∃ (k : Nat) (sq sc : Int) (bf : T5), k ≤ n ∧ i = .int .i64 k ∧ q = .int .i64 sq ∧ c = .int .i64 sc ∧ 0 ≤ sq ∧ sq ≤ 1000000000000000 ∧ 0 ≤ sc ∧ sc ≤ 1000000000000000 ∧ Hid (ahead ps k = bf) ∧ Below w.heap.size w wr ∧ Own5 97 wr w.heap.size w.heap.size 1 1 [bf] ∧ Hid (∀ i, i < k → RowOk ps i ∧ (run ps i).1 ≤ 1000000000000000 ∧ (run ps i).2 ≤ 1000000000000000) ∧ Hid (0 < k → (sq, sc) = run ps (k - 1))) (fun _ _ _ i _ => n - (intOf i).toNat)
  case atStart => exact ⟨0, 0, 0, (0, 0, 0, 0, 0), by omega, rfl, rfl, rfl, by omega, by omega, by omega, by omega, hide rfl, (Below.refl _ _).alloc (Nat.le_refl _) _, unhide O0, hide (fun i hi => absurd hi (by omega)), hide (fun h0 => absurd h0 (by omega))⟩
  case round =>
    clear O0
    obtain ⟨k, sq, sc, ⟨z0, z1, z2, z3, z4⟩, hk, rfl, rfl, rfl, sq0, sq1, sc0, sc1, HP, hb, ho, HG, HS⟩ := hrel
    by_cases t : k < n
    · have hA := (unhide H).below hb hg
      obtain ⟨e0, e1, e2, e3, e4⟩ := hA k (by omega)
      have gs : w.heap.size < wr.heap.size := ho.lt.2
      clear hA
      have HB := hide hb
      clear hb
      have HO := hide ho
      clear ho
      have ROW := hide (show RowOk ps k ↔ One ((el5 ps k).1, (el5 ps k).2.1, (el5 ps k).2.2.1, (el5 ps k).2.2.2.1, (el5 ps k).2.2.2.2) ∧ Bef (z0, z1, z2, z3, z4) ((el5 ps k).1, (el5 ps k).2.1, (el5 ps k).2.2.1, (el5 ps k).2.2.2.1, (el5 ps k).2.2.2.2) from by rw [row_iff, unhide HP])
      have RUN := hide (show RowOk ps k → run ps k = (if (el5 ps k).1 ≠ z0 ∨ (el5 ps k).2.1 ≠ z1 then ((el5 ps k).2.2.2.1, (el5 ps k).2.2.2.2) else (sq + (el5 ps k).2.2.2.1, sc + (el5 ps k).2.2.2.2)) from fun hr => by
        rw [run_next (by omega) (fun i hi => by
          by_cases e : i = k
          · subst e; exact hr
          · exact ((unhide HG) i (by omega)).1)]
        have hz := unhide HP
        unfold ahead at hz
        by_cases k0 : k = 0
        · rw [if_pos k0] at hz
          have z00 : z0 = 0 := by have := congrArg Prod.fst hz; simpa using this.symm
          have one := hr.1.1
          unfold NoOk at one
          rw [if_pos (.inl k0), if_pos (.inl (by omega))]
        · rw [if_neg k0] at hz
          have h0 : (el5 ps (k - 1)).1 = z0 := by rw [hz]
          have h1 : (el5 ps (k - 1)).2.1 = z1 := by rw [hz]
          rw [h0, h1]
          by_cases c : (el5 ps k).1 ≠ z0 ∨ (el5 ps k).2.1 ≠ z1
          · rw [if_pos (.inr c), if_pos c]
          · rw [if_neg (by omega), if_neg c, ← (unhide HS) (by omega)])
      have BAD := hide (show ¬ (RowOk ps k ∧ (run ps k).1 ≤ 1000000000000000 ∧ (run ps k).2 ≤ 1000000000000000) → ok = false from fun hr => hok.not (fun r => hr ((right_iff ps (by omega)).1 r k (by omega))))
      have GOOD := hide (show RowOk ps k ∧ (run ps k).1 ≤ 1000000000000000 ∧ (run ps k).2 ≤ 1000000000000000 → ∀ i, i < k + 1 → RowOk ps i ∧ (run ps i).1 ≤ 1000000000000000 ∧ (run ps i).2 ≤ 1000000000000000 from fun hr i hi => by
        by_cases e : i = k
        · subst e; exact hr
        · exact (unhide HG) i (by omega))
      have AN := hide (ahead_next ps k)
      obtain ⟨rq, rc, RQ⟩ : ∃ rq rc, Hid (run ps k = (rq, rc)) := ⟨_, _, rfl⟩
      rw [unhide RQ] at RUN BAD GOOD
      rw [show el5 ps k = ((el5 ps k).1, (el5 ps k).2.1, (el5 ps k).2.2.1, (el5 ps k).2.2.2.1, (el5 ps k).2.2.2.2) from rfl] at AN
      clear HG HS HP
      generalize (el5 ps k).1 = x0 at *
      generalize (el5 ps k).2.1 = x1 at *
      generalize (el5 ps k).2.2.1 = x2 at *
      generalize (el5 ps k).2.2.2.1 = x3 at *
      generalize (el5 ps k).2.2.2.2 = x4 at *
      obtain ⟨b1, B1⟩ := says_of (One (x0, x1, x2, x3, x4))
      have ONE := hide (show Below wr.heap.size wr (wr.alloc (.cells #[.int .i64 x0, .int .i64 x1, .int .i64 x2, .int .i64 x3, .int .i64 x4] 97)) from (Below.refl _ _).alloc (Nat.le_refl _) _)
      have X := hide (show Holds5 (wr.alloc (.cells #[.int .i64 x0, .int .i64 x1, .int .i64 x2, .int .i64 x3, .int .i64 x4] 97)) wr.heap.size 0 (x0, x1, x2, x3, x4) from by unfold Holds5; simp)
      have hx : wr.heap.size < (wr.alloc (.cells #[.int .i64 x0, .int .i64 x1, .int .i64 x2, .int .i64 x3, .int .i64 x4] 97)).heap.size := by simp
      have O1 := hide ((unhide HO).alloc (.cells #[.int .i64 x0, .int .i64 x1, .int .i64 x2, .int .i64 x3, .int .i64 x4] 97))
      have BB := hide (next (unhide HB) (unhide ONE))
      clear ONE HO
      go_wp2_with fail
      generalize wr.alloc (.cells #[.int .i64 x0, .int .i64 x1, .int .i64 x2, .int .i64 x3, .int .i64 x4] 97) = u at *
      generalize wr.heap.size = yb at *
      refine (lotOk x0 x1 x2 x3 x4 b1 _ B1).mono ?_
      rintro e w1 ⟨rfl, n1⟩
      have X := hide ((unhide X).below n1 hx)
      have O1 := hide ((unhide O1).below n1 (unhide O1).lt.2)
      have BB := hide (next (unhide BB) n1)
      have hx := Nat.lt_of_lt_of_le hx n1.size
      clear n1 e0 e1 e2 e3 e4
      cases b1
      · have OKF := hide ((unhide BAD) (fun hr => B1.no ((unhide ROW).1 hr.1).1))
        clear BAD GOOD ROW RUN
        go_wp2
        go_ret
        exact ⟨by rw [unhide OKF]; rfl, unhide BB⟩
      have o := B1.yes
      obtain ⟨_, _, _, ⟨x3l, x3h⟩, x4l, x4h⟩ : NoOk x0 ∧ NoOk x1 ∧ (1 ≤ x2 ∧ x2 ≤ 1000000000) ∧ (1 ≤ x3 ∧ x3 ≤ 1000000000000000) ∧ (0 ≤ x4 ∧ x4 ≤ 1000000000000000) := o
      obtain ⟨c0, c1, c2, c3, c4⟩ := at0 (unhide X)
      obtain ⟨d0, d1, d2, d3, d4⟩ := at0 ((unhide O1).at 0 (by simp))
      go_wp2_with fail
      refine (compareLot x0 x1 x2 x3 x4 z0 z1 z2 z3 z4 _).mono ?_
      rintro e w2 ⟨rfl, n2⟩
      have X := hide ((unhide X).below n2 hx)
      have O2 := hide ((unhide O1).below n2 (unhide O1).lt.2)
      have BB := hide (next (unhide BB) n2)
      have hx := Nat.lt_of_lt_of_le hx n2.size
      clear n2 c0 c1 c2 c3 c4 d0 d1 d2 d3 d4 O1
      have CLE := hide (cmpL_le (x0, x1, x2, x3, x4) (z0, z1, z2, z3, z4))
      generalize cmpL (x0, x1, x2, x3, x4) (z0, z1, z2, z3, z4) = c at *
      by_cases c9 : c ≤ 0
      · have OKF := hide ((unhide BAD) (fun hr => (unhide CLE).1 c9 ((unhide ROW).1 hr.1).2))
        clear BAD GOOD ROW RUN CLE
        go_wp2
        go_ret
        exact ⟨by rw [unhide OKF]; rfl, unhide BB⟩
      have RK := hide ((unhide ROW).2 ⟨B1.yes, Classical.byContradiction (fun h => by have := (unhide CLE).2 h; omega)⟩)
      clear CLE
      obtain ⟨c0, c1, c2, c3, c4⟩ := at0 (unhide X)
      obtain ⟨d0, d1, d2, d3, d4⟩ := at0 ((unhide O2).at 0 (by simp))
      go_wp2_with fail
      have C0 : ∀ n : Near w2, n.u.cell? ⟨yb, 0, none⟩ = some (.int .i64 x0) := fun n => (n.b.cell (p := ⟨yb, 0, none⟩) hx).trans c0
      have C1 : ∀ n : Near w2, n.u.cell? ⟨yb, 1, none⟩ = some (.int .i64 x1) := fun n => (n.b.cell (p := ⟨yb, 1, none⟩) hx).trans c1
      have C2 : ∀ n : Near w2, n.u.cell? ⟨yb, 2, none⟩ = some (.int .i64 x2) := fun n => (n.b.cell (p := ⟨yb, 2, none⟩) hx).trans c2
      have C3 : ∀ n : Near w2, n.u.cell? ⟨yb, 3, none⟩ = some (.int .i64 x3) := fun n => (n.b.cell (p := ⟨yb, 3, none⟩) hx).trans c3
      have C4 : ∀ n : Near w2, n.u.cell? ⟨yb, 4, none⟩ = some (.int .i64 x4) := fun n => (n.b.cell (p := ⟨yb, 4, none⟩) hx).trans c4
      have hz := (unhide O2).lt.2
      have D0 : ∀ n : Near w2, n.u.cell? ⟨w.heap.size, 0, none⟩ = some (.int .i64 z0) := fun n => (n.b.cell (p := ⟨w.heap.size, 0, none⟩) hz).trans d0
      have D1 : ∀ n : Near w2, n.u.cell? ⟨w.heap.size, 1, none⟩ = some (.int .i64 z1) := fun n => (n.b.cell (p := ⟨w.heap.size, 1, none⟩) hz).trans d1
      have D2 : ∀ n : Near w2, n.u.cell? ⟨w.heap.size, 2, none⟩ = some (.int .i64 z2) := fun n => (n.b.cell (p := ⟨w.heap.size, 2, none⟩) hz).trans d2
      have D3 : ∀ n : Near w2, n.u.cell? ⟨w.heap.size, 3, none⟩ = some (.int .i64 z3) := fun n => (n.b.cell (p := ⟨w.heap.size, 3, none⟩) hz).trans d3
      have D4 : ∀ n : Near w2, n.u.cell? ⟨w.heap.size, 4, none⟩ = some (.int .i64 z4) := fun n => (n.b.cell (p := ⟨w.heap.size, 4, none⟩) hz).trans d4
      have near := near_is w2
      have EQ := eqKey x0 x1 z0 z1
      have GU := guardKey
      by_cases same : x0 = z0 ∧ x1 = z1
      · obtain ⟨rfl, rfl⟩ := same
        refine quiet_near (by kernel_rfl) (by kernel_rfl) ?_
        repeat (go_big_quiet_step (first
          | (go_at_call 117
             rename_i nn
             refine (keyL _ _ _ _ _ nn.u).mono ?_
             rintro e u6 ⟨rfl, b6⟩
             exact ⟨rfl, ⟨u6, next nn.b b6⟩, rfl⟩)))
        refine wpQuiet_nil ?_
        rintro u9 ⟨⟨_, b9⟩, rfl⟩
        have X := hide ((unhide X).below b9 hx)
        have O9 := hide ((unhide O2).below b9 (unhide O2).lt.2)
        have BB := hide (next (unhide BB) b9)
        clear b9 c0 c1 c2 c3 c4 d0 d1 d2 d3 d4 C0 C1 C2 C3 C4 D0 D1 D2 D3 D4 near EQ GU O2
        obtain ⟨c0, c1, c2, c3, c4⟩ := at0 (unhide X)
        obtain ⟨d0, d1, d2, d3, d4⟩ := at0 ((unhide O9).at 0 (by simp))
        obtain ⟨b3, B3⟩ := says_of (Amt (sq + x3))
        obtain ⟨b4, B4⟩ := says_of (Amt (sc + x4))
        have RE := hide (show (rq, rc) = (sq + x3, sc + x4) from by rw [(unhide RUN) (unhide RK), if_neg (by omega)])
        have wS : IntKind.i64.wrap (sq + x3) = sq + x3 := by rw [IntKind.wrap_i64]; omega
        have wT : IntKind.i64.wrap (sc + x4) = sc + x4 := by rw [IntKind.wrap_i64]; omega
        go_wp2_with fail
        go_quiet (fail)
        have BB := hide (below_drewN (unhide BB) nq)
        have O9 := hide (own_drewN (unhide O9) nq)
        have X := hide (holds_drewN (unhide X) nq)
        clear c0 c1 c2 c3 c4 d0 d1 d2 d3 d4
        generalize u9.drewN nq = u8 at *
        obtain ⟨c0, c1, c2, c3, c4⟩ := at0 (unhide X)
        obtain ⟨d0, d1, d2, d3, d4⟩ := at0 ((unhide O9).at 0 (by simp))
        go_wp2_with fail
        refine (iAmt (sq + x3) b3 _ B3).mono ?_
        rintro e w3 ⟨rfl, rfl⟩
        cases b3
        · have OKF := hide ((unhide BAD) (fun hr => B3.no (by have e := congrArg Prod.fst (unhide RE); have := hr.2.1; unfold Amt; simp only at e; omega)))
          clear BAD GOOD ROW RUN RE
          go_wp2
          go_ret
          exact ⟨by rw [unhide OKF]; rfl, unhide BB⟩
        go_wp2_with fail
        refine (iAmt (sc + x4) b4 _ B4).mono ?_
        rintro e w4 ⟨rfl, rfl⟩
        cases b4
        · have OKF := hide ((unhide BAD) (fun hr => B4.no (by have e := congrArg Prod.snd (unhide RE); have := hr.2.2; unfold Amt; simp only at e; omega)))
          clear BAD GOOD ROW RUN RE
          go_wp2
          go_ret
          exact ⟨by rw [unhide OKF]; rfl, unhide BB⟩
        have GO := hide ((unhide GOOD) ⟨unhide RK, by have e := congrArg Prod.fst (unhide RE); have y := B3.yes; unfold Amt at y; simp only at e; omega, by have e := congrArg Prod.snd (unhide RE); have y := B4.yes; unfold Amt at y; simp only at e; omega⟩)
        have y3 := B3.yes.2
        have y4 := B4.yes.2
        have HS2 := hide (show 0 < k + 1 → (sq + x3, sc + x4) = run ps (k + 1 - 1) from fun _ => by rw [show k + 1 - 1 = k by omega, unhide RQ]; exact (unhide RE).symm)
        have st := store5 (unhide O9) x0 x1 x2 x3 x4
        have r0 : w4.frozen? ⟨w.heap.size, 0, none⟩ = false := (unhide O9).free 0
        have r1 : w4.frozen? ⟨w.heap.size, 1, none⟩ = false := (unhide O9).free 1
        have r2 : w4.frozen? ⟨w.heap.size, 2, none⟩ = false := (unhide O9).free 2
        have r3 : w4.frozen? ⟨w.heap.size, 3, none⟩ = false := (unhide O9).free 3
        have r4 : w4.frozen? ⟨w.heap.size, 4, none⟩ = false := (unhide O9).free 4
        have SO := hide st.1
        have SB := hide ((unhide BB).grown st.2 (unhide BB).size (fun j hj => by cases hj; exact Nat.le_refl _))
        clear BAD GOOD ROW RUN HB st RE RQ BB
        go_wp2
        go_roundw
        case rel => exact ⟨k + 1, sq + x3, sc + x4, (x0, x1, x2, x3, x4), by omega, by go_num, rfl, rfl, by omega, by omega, by omega, by omega, AN, unhide SB, unhide SO, GO, HS2⟩
        case measure => simp [intOf]; omega
      · have ne : (x0 == z0 && x1 == z1) = false := by
          rw [Bool.and_eq_false_iff, beq_eq_false_iff_ne, beq_eq_false_iff_ne]
          omega
        refine quiet_near (by kernel_rfl) (by kernel_rfl) ?_
        repeat (go_big_quiet_step (first
          | (go_at_call 117
             rename_i nn
             refine (keyL _ _ _ _ _ nn.u).mono ?_
             rintro e u6 ⟨rfl, b6⟩
             exact ⟨rfl, ⟨u6, next nn.b b6⟩, rfl⟩)))
        refine wpQuiet_nil ?_
        rintro u9 ⟨⟨_, b9⟩, rfl⟩
        have X := hide ((unhide X).below b9 hx)
        have O9 := hide ((unhide O2).below b9 (unhide O2).lt.2)
        have BB := hide (next (unhide BB) b9)
        clear b9 c0 c1 c2 c3 c4 d0 d1 d2 d3 d4 C0 C1 C2 C3 C4 D0 D1 D2 D3 D4 near EQ GU O2
        obtain ⟨c0, c1, c2, c3, c4⟩ := at0 (unhide X)
        obtain ⟨d0, d1, d2, d3, d4⟩ := at0 ((unhide O9).at 0 (by simp))
        obtain ⟨b3, B3⟩ := says_of (Amt (x3))
        obtain ⟨b4, B4⟩ := says_of (Amt (x4))
        have RE := hide (show (rq, rc) = (x3, x4) from by rw [(unhide RUN) (unhide RK), if_pos (by omega)])
        have wS : IntKind.i64.wrap (x3) = x3 := by rw [IntKind.wrap_i64]; omega
        have wT : IntKind.i64.wrap (x4) = x4 := by rw [IntKind.wrap_i64]; omega
        go_wp2_with fail
        go_quiet (fail)
        have BB := hide (below_drewN (unhide BB) nq)
        have O9 := hide (own_drewN (unhide O9) nq)
        have X := hide (holds_drewN (unhide X) nq)
        clear c0 c1 c2 c3 c4 d0 d1 d2 d3 d4
        generalize u9.drewN nq = u8 at *
        obtain ⟨c0, c1, c2, c3, c4⟩ := at0 (unhide X)
        obtain ⟨d0, d1, d2, d3, d4⟩ := at0 ((unhide O9).at 0 (by simp))
        go_wp2_with fail
        refine (iAmt (x3) b3 _ B3).mono ?_
        rintro e w3 ⟨rfl, rfl⟩
        cases b3
        · have OKF := hide ((unhide BAD) (fun hr => B3.no (by have e := congrArg Prod.fst (unhide RE); have := hr.2.1; unfold Amt; simp only at e; omega)))
          clear BAD GOOD ROW RUN RE
          go_wp2
          go_ret
          exact ⟨by rw [unhide OKF]; rfl, unhide BB⟩
        go_wp2_with fail
        refine (iAmt (x4) b4 _ B4).mono ?_
        rintro e w4 ⟨rfl, rfl⟩
        cases b4
        · have OKF := hide ((unhide BAD) (fun hr => B4.no (by have e := congrArg Prod.snd (unhide RE); have := hr.2.2; unfold Amt; simp only at e; omega)))
          clear BAD GOOD ROW RUN RE
          go_wp2
          go_ret
          exact ⟨by rw [unhide OKF]; rfl, unhide BB⟩
        have GO := hide ((unhide GOOD) ⟨unhide RK, by have e := congrArg Prod.fst (unhide RE); have y := B3.yes; unfold Amt at y; simp only at e; omega, by have e := congrArg Prod.snd (unhide RE); have y := B4.yes; unfold Amt at y; simp only at e; omega⟩)
        have y3 := B3.yes.2
        have y4 := B4.yes.2
        have HS2 := hide (show 0 < k + 1 → (x3, x4) = run ps (k + 1 - 1) from fun _ => by rw [show k + 1 - 1 = k by omega, unhide RQ]; exact (unhide RE).symm)
        have st := store5 (unhide O9) x0 x1 x2 x3 x4
        have r0 : w4.frozen? ⟨w.heap.size, 0, none⟩ = false := (unhide O9).free 0
        have r1 : w4.frozen? ⟨w.heap.size, 1, none⟩ = false := (unhide O9).free 1
        have r2 : w4.frozen? ⟨w.heap.size, 2, none⟩ = false := (unhide O9).free 2
        have r3 : w4.frozen? ⟨w.heap.size, 3, none⟩ = false := (unhide O9).free 3
        have r4 : w4.frozen? ⟨w.heap.size, 4, none⟩ = false := (unhide O9).free 4
        have SO := hide st.1
        have SB := hide ((unhide BB).grown st.2 (unhide BB).size (fun j hj => by cases hj; exact Nat.le_refl _))
        clear BAD GOOD ROW RUN HB st RE RQ BB
        go_wp2
        go_roundw
        case rel => exact ⟨k + 1, x3, x4, (x0, x1, x2, x3, x4), by omega, by go_num, rfl, rfl, by omega, by omega, by omega, by omega, AN, unhide SB, unhide SO, GO, HS2⟩
        case measure => simp [intOf]; omega
    · obtain rfl : k = n := by omega
      obtain rfl : ok = true := hok.of ((right_iff ps (by omega)).2 (by rw [hl]; exact unhide HG))
      have HB := hide hb
      clear hb hok ho
      go_wp2
      go_ret
      exact ⟨rfl, unhide HB⟩
end Go.Proofs.YteccbaohfmhnfaaGreat.IOk5
namespace Go.Proofs.YteccbaohfmhnfaaGreat.ILists
open Go.ChangeShapes Go.WideShapes Go.ChangeAt Go.RowKit BMem Bks IRead IHave ITrade
open Lots (Says says_of NoOk)
/-- The books in a new block. -/
theorem boxed (w : World) (x : Bx) (e : TypeId) : Cl (w.alloc (.cells #[.slice (some ⟨x.ga, 0, none⟩) x.b.ac.length x.ca, .slice (some ⟨x.gi, 0, none⟩) x.b.ic.length x.ci, .slice (some ⟨x.gb, 0, none⟩) x.b.bs.length x.cb, .slice (some ⟨x.gl, 0, none⟩) x.b.ls.length x.cl, .slice (some ⟨x.gt, 0, none⟩) x.b.ts.length x.ct, .int .i64 x.b.lot] e)) w.heap.size x := ⟨by simp, by simp, by simp, by simp, by simp, by simp⟩
set_option maxRecDepth 100000 in
set_option maxHeartbeats 2000000 in
theorem iLists (w : World) (x : Bx) (b : Bool) (h : Rd w x) (hb : Says b (Lists x.b)) :
    Calls Tryz.prog 99 #[.agg #[.slice (some ⟨x.ga, 0, none⟩) x.b.ac.length x.ca, .slice (some ⟨x.gi, 0, none⟩) x.b.ic.length x.ci, .slice (some ⟨x.gb, 0, none⟩) x.b.bs.length x.cb, .slice (some ⟨x.gl, 0, none⟩) x.b.ls.length x.cl, .slice (some ⟨x.gt, 0, none⟩) x.b.ts.length x.ct, .int .i64 x.b.lot]] w fun e w' => e = .returned (.bool b) ∧ Below w.heap.size w w' := by
  obtain ⟨b0, h0⟩ := Chart.says_of 20 4 x.b.ac
  obtain ⟨b1, h1⟩ := Chart.says_of 8 2 x.b.ic
  obtain ⟨b2, h2⟩ := Bals.says_of (Bals.Right x.b.bs)
  obtain ⟨b3, h3⟩ := says_of (Lots.Right x.b.ls)
  obtain ⟨b4, h4⟩ := says_of (TRight x.b.ts)
  have H0 := hide h0
  have H1 := hide h1
  have H2 := hide h2
  have H3 := hide h3
  have H4 := hide h4
  have T := hide hb
  clear h0 h1 h2 h3 h4 hb
  have R0 := hide (h.alloc (.cells #[.slice (some ⟨x.ga, 0, none⟩) x.b.ac.length x.ca, .slice (some ⟨x.gi, 0, none⟩) x.b.ic.length x.ci, .slice (some ⟨x.gb, 0, none⟩) x.b.bs.length x.cb, .slice (some ⟨x.gl, 0, none⟩) x.b.ls.length x.cl, .slice (some ⟨x.gt, 0, none⟩) x.b.ts.length x.ct, .int .i64 x.b.lot] 36))
  have C0 := hide (boxed w x 36)
  have B0 := hide ((Below.refl w.heap.size w).alloc (Nat.le_refl _) (.cells #[.slice (some ⟨x.ga, 0, none⟩) x.b.ac.length x.ca, .slice (some ⟨x.gi, 0, none⟩) x.b.ic.length x.ci, .slice (some ⟨x.gb, 0, none⟩) x.b.bs.length x.cb, .slice (some ⟨x.gl, 0, none⟩) x.b.ls.length x.cl, .slice (some ⟨x.gt, 0, none⟩) x.b.ts.length x.ct, .int .i64 x.b.lot] 36))
  have s0 : w.heap.size < (w.alloc (.cells #[.slice (some ⟨x.ga, 0, none⟩) x.b.ac.length x.ca, .slice (some ⟨x.gi, 0, none⟩) x.b.ic.length x.ci, .slice (some ⟨x.gb, 0, none⟩) x.b.bs.length x.cb, .slice (some ⟨x.gl, 0, none⟩) x.b.ls.length x.cl, .slice (some ⟨x.gt, 0, none⟩) x.b.ts.length x.ct, .int .i64 x.b.lot] 36)).heap.size := by simp
  have na := h.na
  have ni := h.ni
  have nb := h.nb
  have nl := h.nl
  have nt := h.nt
  clear h
  go_enter Tryz.func99, Tryz.ntmps99
  go_wp2_with fail
  refine (AccountIKind.iOks _ x.ga _ x.ca x.b.ac b0 rfl na (unhide R0).la (unhide R0).ra (unhide H0)).mono ?_
  rintro e w1 ⟨rfl, bb⟩
  have R1 := hide ((unhide R0).below bb)
  have C1 := hide ((unhide C0).below bb s0)
  have B1 := hide ((unhide B0).trans (bb.mono (Nat.le_of_lt s0)))
  have s1 : w.heap.size < w1.heap.size := Nat.lt_of_lt_of_le s0 bb.size
  have c1 := (unhide C1).c1
  clear bb R0 C0 B0 s0
  cases b0
  · have F := hide ((unhide T).not (fun hh => (unhide H0).no hh.1))
    clear T
    go_wp2
    go_ret
    exact ⟨by rw [unhide F]; rfl, unhide B1⟩
  go_wp2_with fail
  refine (InstrIKind.iOks _ x.gi _ x.ci x.b.ic b1 rfl ni (unhide R1).li (unhide R1).ri (unhide H1)).mono ?_
  rintro e w2 ⟨rfl, bb⟩
  have R2 := hide ((unhide R1).below bb)
  have C2 := hide ((unhide C1).below bb s1)
  have B2 := hide ((unhide B1).trans (bb.mono (Nat.le_of_lt s1)))
  have s2 : w.heap.size < w2.heap.size := Nat.lt_of_lt_of_le s1 bb.size
  have c2 := (unhide C2).c2
  clear bb R1 C1 B1 s1
  cases b1
  · have F := hide ((unhide T).not (fun hh => (unhide H1).no hh.2.1))
    clear T
    go_wp2
    go_ret
    exact ⟨by rw [unhide F]; rfl, unhide B2⟩
  go_wp2_with fail
  refine (IOk3.iOk _ x.gb _ x.cb x.b.bs b2 rfl nb (unhide R2).lb (unhide R2).rb (unhide H2)).mono ?_
  rintro e w3 ⟨rfl, bb⟩
  have R3 := hide ((unhide R2).below bb)
  have C3 := hide ((unhide C2).below bb s2)
  have B3 := hide ((unhide B2).trans (bb.mono (Nat.le_of_lt s2)))
  have s3 : w.heap.size < w3.heap.size := Nat.lt_of_lt_of_le s2 bb.size
  have c3 := (unhide C3).c3
  clear bb R2 C2 B2 s2
  cases b2
  · have F := hide ((unhide T).not (fun hh => (unhide H2).no hh.2.2.1))
    clear T
    go_wp2
    go_ret
    exact ⟨by rw [unhide F]; rfl, unhide B3⟩
  go_wp2_with fail
  refine (IOk5.iOk _ x.gl _ x.cl x.b.ls b3 rfl nl (unhide R3).ll (unhide R3).rl (unhide H3)).mono ?_
  rintro e w4 ⟨rfl, bb⟩
  have R4 := hide ((unhide R3).below bb)
  have C4 := hide ((unhide C3).below bb s3)
  have B4 := hide ((unhide B3).trans (bb.mono (Nat.le_of_lt s3)))
  have s4 : w.heap.size < w4.heap.size := Nat.lt_of_lt_of_le s3 bb.size
  have c4 := (unhide C4).c4
  clear bb R3 C3 B3 s3
  cases b3
  · have F := hide ((unhide T).not (fun hh => (unhide H3).no hh.2.2.2.1))
    clear T
    go_wp2
    go_ret
    exact ⟨by rw [unhide F]; rfl, unhide B4⟩
  go_wp2_with fail
  refine (ITrade.iOk _ x.gt _ x.ct x.b.ts b4 rfl nt (unhide R4).lt (unhide R4).rt (unhide H4)).mono ?_
  rintro e w5 ⟨rfl, bb⟩
  have R5 := hide ((unhide R4).below bb)
  have C5 := hide ((unhide C4).below bb s4)
  have B5 := hide ((unhide B4).trans (bb.mono (Nat.le_of_lt s4)))
  have s5 : w.heap.size < w5.heap.size := Nat.lt_of_lt_of_le s4 bb.size
  have c5 := (unhide C5).c5
  clear bb R4 C4 B4 s4
  cases b4
  · have F := hide ((unhide T).not (fun hh => (unhide H4).no hh.2.2.2.2.1))
    clear T
    go_wp2
    go_ret
    exact ⟨by rw [unhide F]; rfl, unhide B5⟩
  by_cases d1 : 0 ≤ x.b.lot
  · have hd : decide (x.b.lot ≤ 1000000000) = b := by
      by_cases d2 : x.b.lot ≤ 1000000000
      · rw [decide_eq_true d2]
        exact ((unhide T).of ⟨(unhide H0).yes, (unhide H1).yes, (unhide H2).yes, (unhide H3).yes, (unhide H4).yes, d1, d2⟩).symm
      · rw [decide_eq_false d2]
        exact ((unhide T).not (fun hh => d2 hh.2.2.2.2.2.2)).symm
    clear T
    go_wp2
    go_ret
    exact ⟨rfl, unhide B5⟩
  · have F := hide ((unhide T).not (fun hh => d1 hh.2.2.2.2.2.1))
    have hd : decide (0 ≤ x.b.lot) = false := decide_eq_false d1
    clear T d1
    go_wp2
    go_ret
    exact ⟨by rw [unhide F]; rfl, unhide B5⟩
end Go.Proofs.YteccbaohfmhnfaaGreat.ILists
namespace Go.Proofs.YteccbaohfmhnfaaGreat.Tab
open Go.ChangeShapes Go.WideShapes Go.ChangeAt Go.RowKit Bals Triples
open Go.Maps (Keyed)
theorem laidOut : laidOutB Tryz.prog = true := by kernel_rfl
theorem row : (138 : TypeId) < Tryz.prog.types.size := of_decide_eq_true (by kernel_rfl)
theorem cells : Tryz.prog.cellsOf 138 = 2 := by kernel_rfl
theorem wide : (match Tryz.prog.underlying 138 with | some (.array _ _) | some (.struct _) => true | _ => false) = true := by rw [Tryz.underlying138]
theorem deep : Tryz.prog.keyTypeAt (Tryz.prog.types.size + 1) 138 = true := by kernel_rfl
set_option maxRecDepth 100000 in
theorem law : Keyed Tryz.prog 138 := Keyed.of_law (deep_law_laid laidOut (m := 2) (by omega) row (by kernel_rfl) wide)
theorem lawI : Keyed Tryz.prog 3 := Maps.int_keyed Tryz.underlying3
theorem formed {c0 c1 : Value} : (Value.agg #[c0, c1]).formed Tryz.prog 138 = true := by simp [Value.formed, Tryz.underlying138, cells]
theorem zero (w : World) : (zeroValue 3).run Tryz.prog w = .ok (.int .i64 0) w := by kernel_rfl
/-- Two numbers of 64 bits. -/
def Wf (a i : Int) : Prop := (Lit.int .i64 a).wf = true ∧ (Lit.int .i64 i).wf = true
theorem wf_no {a i : Int} (ha : NoOk a) (hi : NoOk i) : Wf a i := by
  unfold NoOk at ha hi
  exact ⟨WalkArith.wf_i64 (by omega), WalkArith.wf_i64 (by omega)⟩
theorem wf_amt {x : Int} (h : Amt x) : (Lit.int .i64 x).wf = true := by
  unfold Amt at h
  exact WalkArith.wf_i64 (by omega)
/-- What a key reads as. -/
def kl (a i : Int) : Lit := .string (keyBytes [.int .i64 a, .int .i64 i])
theorem lits (a i : Int) (h : Wf a i) : Tryz.prog.keyLits (Tryz.prog.types.size + 1) 138 [.int .i64 a, .int .i64 i] = some [.int .i64 a, .int .i64 i] := by
  obtain ⟨m, hm⟩ : ∃ m, Tryz.prog.types.size = m + 1 := Nat.exists_eq_succ_of_ne_zero (Nat.ne_of_gt (Nat.lt_of_le_of_lt (Nat.zero_le _) row))
  rw [hm]
  have c3 : Tryz.prog.cellsOf 3 = 1 := by kernel_rfl
  simp [Program.keyLits, Tryz.underlying138, cells, c3, Tryz.underlying3, h.1, h.2]
theorem key_of {a i : Int} (h : Wf a i) : keyOf Tryz.prog 138 (.agg #[.int .i64 a, .int .i64 i]) = some (kl a i) := by
  have l := lits a i h
  unfold keyOf
  rw [Tryz.underlying138]
  have kt : Tryz.prog.keyType 138 = true := deep
  simp only [kt, formed, Bool.and_self, if_true]
  show Option.map _ (Tryz.prog.keyLits (Tryz.prog.types.size + 1) 138 [.int .i64 a, .int .i64 i]) = _
  rw [l]
  rfl
set_option maxRecDepth 100000 in
theorem key_inv {v : Value} {l : Lit} (h : keyOf Tryz.prog 138 v = some l) : ∃ x : Int × Int, v = .agg #[.int .i64 x.1, .int .i64 x.2] ∧ Wf x.1 x.2 ∧ l = kl x.1 x.2 := by
  obtain ⟨xs, L, rfl, h1, rfl⟩ := keyOf_top wide h
  obtain ⟨m, hm⟩ : ∃ m, Tryz.prog.types.size = m + 1 := Nat.exists_eq_succ_of_ne_zero (Nat.ne_of_gt (Nat.lt_of_le_of_lt (Nat.zero_le _) row))
  rw [hm] at h1
  have c3 : Tryz.prog.cellsOf 3 = 1 := by kernel_rfl
  obtain ⟨xs⟩ := xs
  match xs, h1 with
  | [], h1 => simp [Program.keyLits, Tryz.underlying138, cells] at h1
  | [_], h1 => simp [Program.keyLits, Tryz.underlying138, cells] at h1
  | _ :: _ :: _ :: _, h1 => simp [Program.keyLits, Tryz.underlying138, cells] at h1
  | [v0, v1], h1 =>
    cases v0 <;> cases v1 <;> simp [Program.keyLits, Tryz.underlying138, cells, c3, Tryz.underlying3] at h1
    rename_i q0 a q1 i
    by_cases c0 : q0 = .i64 ∧ (Lit.int .i64 a).wf = true
    · by_cases c1 : q1 = .i64 ∧ (Lit.int .i64 i).wf = true
      · obtain ⟨rfl, w0⟩ := c0
        obtain ⟨rfl, w1⟩ := c1
        simp [w0, w1] at h1
        subst h1
        exact ⟨(a, i), rfl, ⟨w0, w1⟩, rfl⟩
      · simp [c0, c1] at h1
    · simp [c0] at h1
theorem kl_inj {a i b j : Int} (h : Wf a i) (k : Wf b j) (e : kl a i = kl b j) : a = b ∧ i = j := by
  have := law.inj (key_of h) (e ▸ key_of k)
  simpa using this
theorem kl_key {a i : Int} (h : Wf a i) : WideAt.IsKeyLit (kl a i) := law.key (key_of h)
abbrev D0 : Type := DataW Unit
/-- The datum tells f. -/
def Tells (D : D0) (f : Int → Int → Int) : Prop := (∀ a i, Wf a i → D.atKey (kl a i) (.lit (.int .i64 0)) = .lit (.int .i64 (f a i))) ∧ ∀ a i, f a i ≠ 0 → Wf a i
/-- Block B is a table of at most n entries that tells f. -/
def Tab (w : World) (B n : Nat) (f : Int → Int → Int) : Prop := ∃ D : D0, w.ownsMap Tryz.prog 138 (plainElem Tryz.prog 3) B n D ∧ Tells D f
theorem tab_made (w : World) : Tab (w.alloc (.map #[] 0)) w.heap.size 0 (fun _ _ => 0) :=
  ⟨.map [], World.ownsMap_made _ _ _ _, fun a i h => rfl, fun a i h => absurd rfl h⟩
theorem Tab.lt {w : World} {B n : Nat} {f : Int → Int → Int} (h : Tab w B n f) : B < w.heap.size := by
  obtain ⟨D, h1, _⟩ := h
  exact h1.lt
theorem Tab.kept {w w' : World} {B n : Nat} {f : Int → Int → Int} {row : Option Nat} (h : Tab w B n f) (hg : w.grownBy w' row) (hne : some B ≠ row) : Tab w' B n f := by
  obtain ⟨D, h1, h2⟩ := h
  exact ⟨D, h1.kept hg hne, h2⟩
theorem below_grown {b : Nat} {w w' : World} (h : Below b w w') (hb : b = w.heap.size) : w.grownBy w' none := by
  subst hb
  exact ⟨h.os, h.tape, h.output, h.size, fun k hk _ => h.block k hk⟩
theorem Tab.below {w w' : World} {B n : Nat} {f : Int → Int → Int} (h : Tab w B n f) (k : Below w.heap.size w w') : Tab w' B n f := h.kept (below_grown k rfl) (by simp)
theorem Tab.congr {w : World} {B n : Nat} {f g : Int → Int → Int} (h : Tab w B n f) (e : ∀ a i, f a i = g a i) : Tab w B n g := by
  have : f = g := funext fun a => funext fun i => e a i
  exact this ▸ h
/-- A look-up, at the operation. -/
theorem wp_look (w : World) {ops : Array Oper} {rest : List Oper} {o : Oper} {s : Act} {Q : Exit → Act → World → Prop}
    (hg : o.guard = none) (m x : Operand) (t : TypeId) (hop : o.op = Op.lookup t m x false) (ht : Tryz.prog.underlying t = some (.map 138 3)) (B n : Nat) (f : Int → Int → Int) (hm : s.eval m = .map (some B)) (hown : Tab w B n f)
    (a i : Int) (hx : s.eval x = .agg #[.int .i64 a, .int .i64 i]) (hw : Wf a i)
    (hK : wpList Tryz.prog ops Q rest (s.put o.dst (.int .i64 (f a i))) w) : wpList Tryz.prog ops Q (o :: rest) s w := by
  obtain ⟨D, h1, h2, h3⟩ := hown
  refine wpList_lookup_own_int w hg m x t hop 138 3 .i64 law ht Tryz.underlying3 (zero _) B n D hm h1 _ (kl a i) hx (key_of hw) ?_
  intro c hat hwc
  rw [h2 a i hw] at hat
  have : f a i = c := by simpa using hat
  rw [← this]
  exact hK
theorem tells_put {D : D0} {f : Int → Int → Int} (h : Tells D f) (hD : Maps.IsMap D) {a i v : Int} (hw : Wf a i) : Tells (D.put (kl a i) (.lit (.int .i64 v))) (upd f a i v) := by
  refine ⟨fun b j hb => ?_, fun b j hb => ?_⟩
  · by_cases e : b = a ∧ j = i
    · obtain ⟨rfl, rfl⟩ := e
      rw [upd_same, Maps.atKey_put_same hD (kl_key hw)]
    · rw [upd_other _ _ _ _ _ _ e, Maps.atKey_put_other (fun q => e (kl_inj hb hw q)), h.1 b j hb]
  · by_cases e : b = a ∧ j = i
    · obtain ⟨rfl, rfl⟩ := e
      exact hw
    · rw [upd_other _ _ _ _ _ _ e] at hb
      exact h.2 b j hb
theorem isMap_of {w : World} {k : TypeId} {R : Value → Option (D0 × List MemPlace)} {B n : Nat} {D : D0} (h : w.ownsMap Tryz.prog k R B n D) : Maps.IsMap D := by
  obtain ⟨es, clock, _, _, _, rfl⟩ := h
  exact ⟨_, rfl⟩
/-- A store, at the operation. -/
theorem wp_put (w : World) {ops : Array Oper} {rest : List Oper} {o : Oper} {s : Act} {Q : Exit → Act → World → Prop}
    (hg : o.guard = none) (m x y : Operand) (t : TypeId) (hop : o.op = Op.mapUpdate t m x y) (ht : Tryz.prog.underlying t = some (.map 138 3)) (B n : Nat) (f : Int → Int → Int) (hm : s.eval m = .map (some B)) (hown : Tab w B n f) (hn : n ≤ 1048576)
    (a i v : Int) (hx : s.eval x = .agg #[.int .i64 a, .int .i64 i]) (hy : s.eval y = .int .i64 v) (hw : Wf a i) (hv : (Lit.int .i64 v).wf = true)
    (hK : ∀ w', Tab w' B (n + 1) (upd f a i v) → w.grownBy w' (some B) → wpList Tryz.prog ops Q rest (s.put o.dst undef) w') : wpList Tryz.prog ops Q (o :: rest) s w := by
  obtain ⟨D, h1, h2⟩ := hown
  refine wpList_mapUpdate_own w hg m x y t hop 138 3 law ht _ B n D hm h1 (by unfold maxLen; omega) _ _ (kl a i) hx hy (key_of hw) (.lit (.int .i64 v)) [] (plainElem_int Tryz.underlying3 hv) ?_
  intro w' h3 h4
  exact hK w' ⟨_, h3, tells_put h2 (isMap_of h1) hw⟩ h4
/-- Block B is a table that tells f, block r goes over it; left: the keys still to come. -/
def RTab (w : World) (B r n : Nat) (f : Int → Int → Int) (left : Int → Int → Bool) (cnt : Nat) : Prop :=
  ∃ (D : D0) (lf : Lit → Bool), w.ranges Tryz.prog 138 (plainElem Tryz.prog 3) B r n D lf cnt ∧ Tells D f ∧ ∀ a i, Wf a i → left a i = lf (kl a i)
theorem RTab.lt {w : World} {B r n : Nat} {f : Int → Int → Int} {left : Int → Int → Bool} {cnt : Nat} (h : RTab w B r n f left cnt) : B < w.heap.size ∧ r < w.heap.size ∧ r ≠ B ∧ w.rangeLeft B r = cnt := by
  obtain ⟨D, lf, h1, _⟩ := h
  exact ⟨h1.owns.lt, h1.lt, h1.ne, h1.left_eq⟩
theorem RTab.kept {w w' : World} {B r n : Nat} {f : Int → Int → Int} {left : Int → Int → Bool} {cnt : Nat} {row : Option Nat} (h : RTab w B r n f left cnt) (hg : w.grownBy w' row) (hb : some B ≠ row) (hr : some r ≠ row) : RTab w' B r n f left cnt := by
  obtain ⟨D, lf, h1, h2⟩ := h
  exact ⟨D, lf, h1.kept hg hb hr, h2⟩
/-- 'range', at the operation. -/
theorem wp_range (w : World) {ops : Array Oper} {rest : List Oper} {o : Oper} {s : Act} {Q : Exit → Act → World → Prop}
    (hg : o.guard = none) (m : Operand) (t : TypeId) (hop : o.op = Op.range t m) (ht : Tryz.prog.underlying t = some (.map 138 3)) (B n : Nat) (f : Int → Int → Int) (hm : s.eval m = .map (some B)) (hown : Tab w B n f)
    (hK : ∀ w' left cnt, RTab w' B w.heap.size n f left cnt → cnt ≤ n → (∀ a i, f a i ≠ 0 → left a i = true) → w.grownBy w' none → w'.heap.size = w.heap.size + 1 → wpList Tryz.prog ops Q rest (s.put o.dst (.pointer (some ⟨w.heap.size, 0, none⟩))) w') : wpList Tryz.prog ops Q (o :: rest) s w := by
  obtain ⟨D, h1, h2⟩ := hown
  refine wpList_range_own w hg m t hop 138 3 law ht _ B n D hm h1 ?_
  intro w' h3 h4 h5
  refine hK w' (fun a i => Maps.has D (kl a i)) (Maps.size D) ⟨D, Maps.has D, h3, h2, fun a i _ => rfl⟩ ?_ ?_ h4 h5
  · obtain ⟨es, clock, _, _, hs, rfl⟩ := h1
    rw [Maps.size_eq, length_sorted]
    simpa using hs
  · intro a i hf
    refine Classical.byContradiction fun nh => ?_
    have nh : Maps.has D (kl a i) = false := by simpa using nh
    have e := h2.1 a i (h2.2 a i hf)
    rw [Maps.atKey_of_not_has nh] at e
    have : (0 : Int) = f a i := by simpa using e
    exact hf this.symm
set_option maxRecDepth 100000 in
/-- The step, at the operation. -/
theorem wp_next (w : World) {ops : Array Oper} {rest : List Oper} {o : Oper} {s : Act} {Q : Exit → Act → World → Prop}
    (hg : o.guard = none) (it : Operand) (hop : o.op = Op.next it false) (B r n : Nat) (f : Int → Int → Int) (left : Int → Int → Bool) (cnt : Nat) (hit : s.eval it = .pointer (some ⟨r, 0, none⟩)) (h : RTab w B r n f left cnt)
    (hDone : cnt = 0 → (∀ a i, Wf a i → left a i = false) → wpList Tryz.prog ops Q rest (s.put o.dst (.tuple #[.bool false])) w)
    (hMore : ∀ (a i : Int) (w' : World) (left' : Int → Int → Bool) (cnt' : Nat), Wf a i → (Lit.int .i64 (f a i)).wf = true → left a i = true → (∀ b j, Wf b j → left' b j = (left b j && !decide (b = a ∧ j = i))) → RTab w' B r n f left' cnt' → cnt' < cnt → w.grownBy w' (some r) → w'.heap.size = w.heap.size →
      (Instr.entry (.pointer (some ⟨r, 0, none⟩))).run Tryz.prog w' = .ok (.tuple #[.agg #[.int .i64 a, .int .i64 i], .int .i64 (f a i)]) w' → wpList Tryz.prog ops Q rest (s.put o.dst (.tuple #[.bool true, .agg #[.int .i64 a, .int .i64 i], .int .i64 (f a i)])) w') :
    wpList Tryz.prog ops Q (o :: rest) s w := by
  obtain ⟨D, lf, h1, h2, h3⟩ := h
  refine wpList_next_ranges (α := Int × Int) (β := Int) w hg it hop 138 law (plainElem Tryz.prog 3) (fun x => .agg #[.int .i64 x.1, .int .i64 x.2]) (Value.int .i64) (fun key l hk => by obtain ⟨x, e, _⟩ := key_inv hk; exact ⟨x, e⟩) (fun v y hv => by obtain ⟨c, rfl, _⟩ := plainElem_int_inv Tryz.underlying3 hv; exact ⟨c, rfl⟩) B r n D lf cnt hit h1 ?_ ?_
  · intro h4 h5
    exact hDone h4 (fun a i hw => by rw [h3 a i hw, h5])
  · intro x c l y w' cnt' hkey hlk hv hat hrg hlt hgr hsz hen
    obtain ⟨⟨a, i⟩, e, hw, rfl⟩ := key_inv hkey
    obtain ⟨c', ec, rfl, hwc⟩ := plainElem_int_inv Tryz.underlying3 hv
    cases ec
    obtain ⟨x1, x2⟩ := x
    obtain ⟨rfl, rfl⟩ : x1 = a ∧ x2 = i := by simpa using e
    have ef : f x1 x2 = c := by
      have := h2.1 x1 x2 hw
      rw [hat] at this
      simpa using this.symm
    subst ef
    refine hMore x1 x2 w' (fun b j => lf (kl b j) && !(kl b j).sameKey (kl x1 x2)) cnt' hw hwc (by rw [h3 x1 x2 hw]; exact hlk) (fun b j hb => ?_) ⟨D, _, hrg, h2, fun b j _ => rfl⟩ hlt hgr hsz hen
    rw [h3 b j hb]
    congr 2
    by_cases q : b = x1 ∧ j = x2
    · obtain ⟨rfl, rfl⟩ := q
      rw [WideAt.sameKey_self (kl_key hb)]
      simp
    · rw [Maps.sameKey_ne (fun e => q (kl_inj hb hw e))]
      simp [q]
end Go.Proofs.YteccbaohfmhnfaaGreat.Tab
namespace Go.Proofs.YteccbaohfmhnfaaGreat.SOk3
open Go.ChangeShapes Go.WideShapes Go.ChangeAt Go.RowKit Bals Triples
theorem sIn (x lo hi : Int) (b : Bool) (w : World) (hb : Says b (lo ≤ x ∧ x ≤ hi)) :
    Calls Tryz.prog 55 #[.int .i64 x, .int .i64 lo, .int .i64 hi] w fun e w' => e = .returned (.bool b) ∧ w' = w := by
  by_cases h1 : lo ≤ x
  · by_cases h2 : x ≤ hi
    · obtain rfl : b = true := hb.of ⟨h1, h2⟩
      clear hb
      go_enter Tryz.func55, Tryz.ntmps55
      go_wp2
      go_ret
      exact ⟨rfl, rfl⟩
    · obtain rfl : b = false := hb.not (fun r => h2 r.2)
      clear hb
      go_enter Tryz.func55, Tryz.ntmps55
      go_wp2
      go_ret
      exact ⟨rfl, rfl⟩
  · obtain rfl : b = false := hb.not (fun r => h1 r.1)
    clear hb
    go_enter Tryz.func55, Tryz.ntmps55
    go_wp2
    go_ret
    exact ⟨rfl, rfl⟩
theorem sNo (x : Int) (b : Bool) (w : World) (hb : Says b (NoOk x)) :
    Calls Tryz.prog 17 #[.int .i64 x] w fun e w' => e = .returned (.bool b) ∧ w' = w := by
  go_enter Tryz.func17, Tryz.ntmps17
  go_wp2_with fail
  refine (sIn x 1 1000 b _ hb).mono ?_
  rintro e w' ⟨rfl, rfl⟩
  go_wp2
  go_ret
  exact ⟨rfl, rfl⟩
theorem sAmt (x : Int) (b : Bool) (w : World) (hb : Says b (Amt x)) :
    Calls Tryz.prog 84 #[.int .i64 x] w fun e w' => e = .returned (.bool b) ∧ w' = w := by
  go_enter Tryz.func84, Tryz.ntmps84
  go_wp2_with fail
  refine (sIn x (-1000000000000000) 1000000000000000 b _ hb).mono ?_
  rintro e w' ⟨rfl, rfl⟩
  go_wp2
  go_ret
  exact ⟨rfl, rfl⟩
theorem sBefore (a i c j : Int) (b : Bool) (w : World) (hb : Says b (a < c ∨ (a = c ∧ i < j))) :
    Calls Tryz.prog 85 #[.int .i64 a, .int .i64 i, .int .i64 c, .int .i64 j] w fun e w' => e = .returned (.bool b) ∧ w' = w := by
  by_cases h1 : a < c
  · obtain rfl : b = true := hb.of (.inl h1)
    clear hb
    go_enter Tryz.func85, Tryz.ntmps85
    go_wp2
    go_ret
    exact ⟨rfl, rfl⟩
  · by_cases h2 : a = c
    · subst h2
      by_cases h3 : i < j
      · obtain rfl : b = true := hb.of (.inr ⟨rfl, h3⟩)
        clear hb
        go_enter Tryz.func85, Tryz.ntmps85
        go_wp2
        go_ret
        exact ⟨rfl, rfl⟩
      · obtain rfl : b = false := hb.not (fun r => by omega)
        clear hb
        go_enter Tryz.func85, Tryz.ntmps85
        go_wp2
        go_ret
        exact ⟨rfl, rfl⟩
    · obtain rfl : b = false := hb.not (fun r => by omega)
      clear hb
      go_enter Tryz.func85, Tryz.ntmps85
      go_wp2
      go_ret
      exact ⟨rfl, rfl⟩
theorem one_more (w : World) (o : Obj) : Below w.heap.size w (w.alloc o) := (Below.refl _ _).alloc (Nat.le_refl _) _
set_option maxRecDepth 100000 in
set_option maxHeartbeats 4000000 in
theorem sOk (w : World) (g n cap : Nat) (ps : List T3) (ok : Bool) (hl : ps.length = n) (h20 : n ≤ 1048576) (hg : g < w.heap.size) (h : At3 w g ps) (hok : Says ok (Right ps)) :
    Calls Tryz.prog 52 #[.slice (some ⟨g, 0, none⟩) n cap] w fun e w' => e = .returned (.bool ok) ∧ Below w.heap.size w w' := by
  by_cases nn : (160 : Int) < (n : Int)
  · obtain rfl : ok = false := hok.not (fun r => by have := r.1; omega)
    clear hok h
    go_enter Tryz.func52, Tryz.ntmps52
    go_wp2
    go_ret
    exact ⟨rfl, Below.refl _ _⟩
  have H := hide h
  clear h
  go_enter Tryz.func52, Tryz.ntmps52
  go_wp2
  go_loopw [3, 4] (fun i _ wr => ∃ (k : Nat), k ≤ n ∧ i = .int .i64 k ∧ Below w.heap.size w wr ∧ Hid (∀ i, i < k → RowOk ps i)) (fun i _ _ => n - (intOf i).toNat)
  case atStart => exact ⟨0, by omega, rfl, Below.refl _ _, hide (fun i hi => absurd hi (by omega))⟩
  case round =>
    obtain ⟨k, hk, rfl, hb, HG⟩ := hrel
    by_cases t : k < n
    · have hA := (unhide H).below hb hg
      obtain ⟨e1, e2, e3⟩ := hA k (by omega)
      have e4 : 0 < k → wr.cell? ⟨g, (k - 1) * 3, none⟩ = some (.int .i64 (el3 ps (k - 1)).1) := fun k0 => (hA (k - 1) (by omega)).1
      have e5 : 0 < k → wr.cell? ⟨g, (k - 1) * 3 + 1, none⟩ = some (.int .i64 (el3 ps (k - 1)).2.1) := fun k0 => (hA (k - 1) (by omega)).2.1
      have gs : g < wr.heap.size := Nat.lt_of_lt_of_le hg hb.size
      have gne : g ≠ wr.heap.size := by omega
      clear hA
      have HB := hide hb
      clear hb
      obtain ⟨b1, B1⟩ := says_of (NoOk (el3 ps k).1)
      obtain ⟨b2, B2⟩ := says_of (NoOk (el3 ps k).2.1)
      obtain ⟨b3, B3⟩ := says_of (Amt (el3 ps k).2.2)
      obtain ⟨b4, B4⟩ := says_of ((el3 ps (k - 1)).1 < (el3 ps k).1 ∨ ((el3 ps (k - 1)).1 = (el3 ps k).1 ∧ (el3 ps (k - 1)).2.1 < (el3 ps k).2.1))
      have ROW := hide (show RowOk ps k ↔ (b1 = true) ∧ (b2 = true) ∧ (b3 = true) ∧ (el3 ps k).2.2 ≠ 0 ∧ (0 < k → b4 = true) from by unfold Says at B1 B2 B3 B4; rw [B1, B2, B3, B4]; exact Iff.rfl)
      have BAD := hide (show ¬ RowOk ps k → ok = false from fun hr => hok.not (fun r => hr (r.2 k (by omega))))
      have GOOD := hide (show RowOk ps k → ∀ i, i < k + 1 → RowOk ps i from fun hr i hi => by
        by_cases e : i = k
        · subst e; exact hr
        · exact (unhide HG) i (by omega))
      generalize (el3 ps k).1 = x at *
      generalize (el3 ps k).2.1 = y at *
      generalize (el3 ps k).2.2 = z at *
      generalize (el3 ps (k - 1)).1 = u at *
      generalize (el3 ps (k - 1)).2.1 = v at *
      have NB := hide (fun m => next (unhide HB) (below_drewN (one_more wr (.cells #[.int .i64 x, .int .i64 y, .int .i64 z] 102)) m))
      cases b1
      · clear e4 e5 B4
        have OKF := hide ((unhide BAD) (fun hr => by have := (unhide ROW).1 hr; cases this.1))
        clear BAD GOOD ROW
        go_wp2_with fail
        go_quiet (first | (go_at_call 17; refine Calls.quiet_of_same (sNo _ false _ B1)))
        go_wp2
        go_ret
        exact ⟨by rw [unhide OKF]; rfl, (unhide NB) _⟩
      · cases b2
        · clear e4 e5 B4
          have OKF := hide ((unhide BAD) (fun hr => by have := (unhide ROW).1 hr; cases this.2.1))
          clear BAD GOOD ROW
          go_wp2_with fail
          go_quiet (first | (go_at_call 17; refine Calls.quiet_of_same (sNo _ true _ B1)) | (go_at_call 17; refine Calls.quiet_of_same (sNo _ false _ B2)))
          go_wp2
          go_ret
          exact ⟨by rw [unhide OKF]; rfl, (unhide NB) _⟩
        · cases b3
          · clear e4 e5 B4
            have OKF := hide ((unhide BAD) (fun hr => by have := (unhide ROW).1 hr; cases this.2.2.1))
            clear BAD GOOD ROW
            go_wp2_with fail
            go_quiet (first | (go_at_call 17; refine Calls.quiet_of_same (sNo _ true _ B1)) | (go_at_call 17; refine Calls.quiet_of_same (sNo _ true _ B2)) | (go_at_call 84; refine Calls.quiet_of_same (sAmt _ false _ B3)))
            go_wp2
            go_ret
            exact ⟨by rw [unhide OKF]; rfl, (unhide NB) _⟩
          · by_cases z0 : z = 0
            · subst z0
              clear e4 e5 B4
              have OKF := hide ((unhide BAD) (fun hr => by have := (unhide ROW).1 hr; exact this.2.2.2.1 rfl))
              clear BAD GOOD ROW
              go_wp2_with fail
              go_quiet (first | (go_at_call 17; refine Calls.quiet_of_same (sNo _ true _ B1)) | (go_at_call 17; refine Calls.quiet_of_same (sNo _ true _ B2)) | (go_at_call 84; refine Calls.quiet_of_same (sAmt _ true _ B3)))
              go_wp2
              go_ret
              exact ⟨by rw [unhide OKF]; rfl, (unhide NB) _⟩
            · have zb : (z == 0) = false := by simpa using z0
              by_cases k0 : 0 < k
              · have e4 := e4 k0
                have e5 := e5 k0
                have k1 : (0 : Int) < (k : Int) := by omega
                have k2 : (0 : Int) ≤ (k : Int) - 1 := by omega
                have k3 : ((k : Int) - 1).toNat = k - 1 := by omega
                have k4 : IntKind.i64.wrap ((k : Int) - 1) = (k : Int) - 1 := by rw [IntKind.wrap_i64]; omega
                have k5 : (k : Int) - 1 < (n : Int) := by omega
                cases b4
                · have OKF := hide ((unhide BAD) (fun hr => by have := (unhide ROW).1 hr; cases this.2.2.2.2 k0))
                  clear BAD GOOD ROW
                  go_wp2_with fail
                  go_quiet (first | (go_at_call 17; refine Calls.quiet_of_same (sNo _ true _ B1)) | (go_at_call 17; refine Calls.quiet_of_same (sNo _ true _ B2)) | (go_at_call 84; refine Calls.quiet_of_same (sAmt _ true _ B3)) | (go_at_call 85; refine Calls.quiet_of_same (sBefore _ _ _ _ false _ B4)))
                  go_wp2
                  go_ret
                  exact ⟨by rw [unhide OKF]; rfl, (unhide NB) _⟩
                · have GO := hide ((unhide GOOD) ((unhide ROW).2 ⟨rfl, rfl, rfl, z0, fun _ => rfl⟩))
                  clear BAD GOOD ROW
                  go_wp2_with fail
                  go_quiet (first | (go_at_call 17; refine Calls.quiet_of_same (sNo _ true _ B1)) | (go_at_call 17; refine Calls.quiet_of_same (sNo _ true _ B2)) | (go_at_call 84; refine Calls.quiet_of_same (sAmt _ true _ B3)) | (go_at_call 85; refine Calls.quiet_of_same (sBefore _ _ _ _ true _ B4)))
                  go_wp2
                  go_roundw
                  case rel => exact ⟨k + 1, by omega, by go_num, (unhide NB) _, GO⟩
                  case measure => simp [intOf]; omega
              · obtain rfl : k = 0 := by omega
                clear e4 e5 B4
                have GO := hide ((unhide GOOD) ((unhide ROW).2 ⟨rfl, rfl, rfl, z0, fun h0 => absurd h0 k0⟩))
                clear BAD GOOD ROW
                go_wp2_with fail
                go_quiet (first | (go_at_call 17; refine Calls.quiet_of_same (sNo _ true _ B1)) | (go_at_call 17; refine Calls.quiet_of_same (sNo _ true _ B2)) | (go_at_call 84; refine Calls.quiet_of_same (sAmt _ true _ B3)))
                go_wp2
                go_roundw
                case rel => exact ⟨1, by omega, by go_num, (unhide NB) _, GO⟩
                case measure => simp [intOf]; omega
    · obtain rfl : k = n := by omega
      obtain rfl : ok = true := hok.of ⟨by omega, by rw [hl]; exact unhide HG⟩
      have HB := hide hb
      clear hb hok
      go_wp2
      go_ret
      exact ⟨rfl, unhide HB⟩
end Go.Proofs.YteccbaohfmhnfaaGreat.SOk3
namespace Go.Proofs.YteccbaohfmhnfaaGreat.Look
open Go.ChangeShapes Go.WideShapes Go.ChangeAt Go.RowKit Bals Triples Cmp SOk3 IOk3 Tab
theorem drop_next {ps : List T3} {k : Nat} (h : k < ps.length) : ps.drop k = el3 ps k :: ps.drop (k + 1) := by
  rw [List.drop_eq_getElem_cons h]
  simp [el3, List.getD, h]
theorem val_hit {ps : List T3} {k : Nat} {a i : Int} (h : k < ps.length) (e : (el3 ps k).1 = a ∧ (el3 ps k).2.1 = i) : val (ps.drop k) a i = (el3 ps k).2.2 := by
  rw [drop_next h]
  unfold val
  rw [if_pos e]
theorem val_miss {ps : List T3} {k : Nat} {a i : Int} (h : k < ps.length) (e : ¬ ((el3 ps k).1 = a ∧ (el3 ps k).2.1 = i)) : val (ps.drop k) a i = val (ps.drop (k + 1)) a i := by
  rw [drop_next h, val, if_neg e]
set_option maxRecDepth 100000 in
theorem sOf (w : World) (g n cap : Nat) (ps : List T3) (a i : Int) (hl : ps.length = n) (h20 : n ≤ 1048576) (h : At3 w g ps) :
    Calls Tryz.prog 91 #[.slice (some ⟨g, 0, none⟩) n cap, .int .i64 a, .int .i64 i] w fun e w' => e = .returned (.int .i64 (val ps a i)) ∧ w' = w := by
  go_enter Tryz.func91, Tryz.ntmps91
  go_wp2
  go_loop [7] (fun j => ∃ (k : Nat), k ≤ n ∧ j = .int .i64 k ∧ Hid (val ps a i = val (ps.drop k) a i)) (fun j => n - (intOf j).toNat)
  case atStart => exact ⟨0, by omega, rfl, hide rfl⟩
  case round =>
    obtain ⟨k, hk, rfl, HV⟩ := hrel
    by_cases t : k < n
    · obtain ⟨e1, e2, e3⟩ := h k (by omega)
      have HIT := hide (val_hit (ps := ps) (k := k) (a := a) (i := i) (by omega))
      have MISS := hide (val_miss (ps := ps) (k := k) (a := a) (i := i) (by omega))
      clear h
      generalize (el3 ps k).1 = x at *
      generalize (el3 ps k).2.1 = y at *
      generalize (el3 ps k).2.2 = z at *
      by_cases c1 : x = a
      · by_cases c2 : y = i
        · have V := hide ((unhide HV).trans ((unhide HIT) ⟨c1, c2⟩))
          clear HIT MISS HV
          subst c1 c2
          go_wp2
          go_ret
          exact ⟨by rw [unhide V]; rfl, rfl⟩
        · have V := hide ((unhide HV).trans ((unhide MISS) (fun r => c2 r.2)))
          clear HIT MISS HV
          have c2b : (y == i) = false := by simpa using c2
          subst c1
          go_wp2
          go_round
          case rel => exact ⟨k + 1, by omega, by go_num, V⟩
          case measure => simp [intOf]; omega
      · have V := hide ((unhide HV).trans ((unhide MISS) (fun r => c1 r.1)))
        clear HIT MISS HV
        have c1b : (x == a) = false := by simpa using c1
        go_wp2
        go_round
        case rel => exact ⟨k + 1, by omega, by go_num, V⟩
        case measure => simp [intOf]; omega
    · obtain rfl : k = n := by omega
      have V := hide ((unhide HV).trans (show val (ps.drop k) a i = 0 by rw [List.drop_of_length_le (by omega)]; rfl))
      clear HV h
      go_wp2
      go_ret
      exact ⟨by rw [unhide V]; rfl, rfl⟩
theorem val_more (p : T3) : ∀ (l : List T3), (∀ q ∈ l, Bef q p) → ∀ a i, val (l ++ [p]) a i = upd (val l) p.1 p.2.1 p.2.2 a i
  | [], _, a, i => by
    unfold upd
    simp only [List.nil_append, val]
    by_cases e : p.1 = a ∧ p.2.1 = i
    · rw [if_pos e, if_pos ⟨e.1.symm, e.2.symm⟩]
    · rw [if_neg e, if_neg (fun r => e ⟨r.1.symm, r.2.symm⟩)]
  | q :: r, h, a, i => by
    have ih := val_more p r (fun x hx => h x (List.mem_cons_of_mem _ hx)) a i
    have b := h q List.mem_cons_self
    unfold upd at ih ⊢
    simp only [List.cons_append, val, ih]
    by_cases e : q.1 = a ∧ q.2.1 = i
    · rw [if_pos e, if_pos e, if_neg (fun r => by unfold Bef at b; omega)]
    · rw [if_neg e, if_neg e]
theorem val_take {ps : List T3} (h : Right ps) {k : Nat} (hk : k < ps.length) : ∀ a i, val (ps.take (k + 1)) a i = upd (val (ps.take k)) (el3 ps k).1 (el3 ps k).2.1 (el3 ps k).2.2 a i := by
  rw [take_next hk]
  refine val_more _ _ (fun q hq => ?_)
  obtain ⟨j, hj, rfl⟩ := mem_getD hq
  have hj' : j < k := by simp at hj; omega
  have := h.asc k j hj' hk
  simpa [el3, List.getD, hj', show j < ps.length by omega] using this
set_option maxRecDepth 100000 in
theorem iTable (w : World) (g n cap : Nat) (ps : List T3) (hl : ps.length = n) (hg : g < w.heap.size) (h : At3 w g ps) (hr : Right ps) :
    Calls Tryz.prog 127 #[.slice (some ⟨g, 0, none⟩) n cap] w fun e w' => e = .returned (.map (some w.heap.size)) ∧ Tab w' w.heap.size n (val ps) ∧ Below w.heap.size w w' := by
  have h160 : n ≤ 160 := by have := hr.1; omega
  have H := hide h
  have HR := hide hr
  clear h hr
  have hmm := @run_makeMap Tryz.prog
  go_enter Tryz.func127, Tryz.ntmps127
  go_wp2
  go_loopw [5, 9] (fun _ j wr => ∃ (k : Nat), k ≤ n ∧ j = .int .i64 k ∧ Tab wr w.heap.size k (val (ps.take k)) ∧ Below w.heap.size w wr) (fun _ j _ => n - (intOf j).toNat)
  case atStart => exact ⟨0, by omega, rfl, tab_made w, (Below.refl _ _).alloc (Nat.le_refl _) _⟩
  case round =>
    obtain ⟨k, hk, rfl, ht, hb⟩ := hrel
    by_cases t : k < n
    · obtain ⟨e1, e2, e3⟩ := (unhide H).below hb hg k (by omega)
      have VT := hide (val_take (unhide HR) (k := k) (by omega))
      obtain ⟨r1, r2, r3, r4, _⟩ := (unhide HR).2 k (by omega)
      have WF := wf_no r1 r2
      have WA := wf_amt r3
      have bl := ht.lt
      have HB := hide hb
      have t1 := ht.kept (World.grownBy_alloc wr (.cells #[.int .i64 (el3 ps k).1, .int .i64 (el3 ps k).2.1, .int .i64 (el3 ps k).2.2] 102) none) (by simp)
      have HT := hide t1
      clear hb ht r1 r2 r3 r4 t1
      generalize (el3 ps k).1 = x at *
      generalize (el3 ps k).2.1 = y at *
      generalize (el3 ps k).2.2 = z at *
      go_wp2_with (first | (at_mapUpdate; refine wp_put _ rfl _ _ _ 136 rfl Tryz.underlying136 w.heap.size k _ rfl (unhide HT) (by omega) x y z rfl rfl WF WA ?_; intro w1 t1 g1) | go_in)
      go_roundw
      case rel =>
        refine ⟨k + 1, by omega, by go_num, t1.congr (fun a i => ((unhide VT) a i).symm), ?_⟩
        exact ((unhide HB).alloc (unhide HB).size _).grown g1 (by simp; have := (unhide HB).size; omega) (by simp)
      case measure => simp [intOf]; omega
    · obtain rfl : k = n := by omega
      rw [List.take_of_length_le (by omega)] at ht
      have HT := hide ht
      have HB := hide hb
      clear ht hb
      go_wp2
      go_ret
      exact ⟨rfl, unhide HT, unhide HB⟩
theorem sTold (x : Int) (b c : Bool) (r : Int) (w : World) (h : (b = true ∧ Amt x ∧ r = x ∧ c = true) ∨ (¬ (b = true ∧ Amt x) ∧ r = 0 ∧ c = false)) :
    Calls Tryz.prog 109 #[.int .i64 x, .bool b] w fun e w' => e = .returned (.tuple #[.int .i64 r, .bool c]) ∧ w' = w := by
  obtain ⟨d, D⟩ := says_of (Amt x)
  cases b
  · rcases h with ⟨h1, _⟩ | ⟨_, rfl, rfl⟩
    · cases h1
    · go_enter Tryz.func109, Tryz.ntmps109
      go_wp2
      go_ret2
      exact ⟨rfl, rfl⟩
  · cases d
    · rcases h with ⟨_, h1, _⟩ | ⟨_, rfl, rfl⟩
      · exact absurd h1 D.no
      · go_enter Tryz.func109, Tryz.ntmps109
        go_wp2_with fail
        refine (sAmt x false _ D).mono ?_
        rintro e w1 ⟨rfl, rfl⟩
        go_wp2
        go_ret2
        exact ⟨rfl, rfl⟩
    · rcases h with ⟨_, h1, rfl, rfl⟩ | ⟨h1, _⟩
      · clear h1
        go_enter Tryz.func109, Tryz.ntmps109
        go_wp2_with fail
        refine (sAmt r true _ D).mono ?_
        rintro e w1 ⟨rfl, rfl⟩
        go_wp2
        go_ret2
        exact ⟨rfl, rfl⟩
      · exact absurd ⟨rfl, D.yes⟩ h1
theorem iOnly (x : Int) (c : Bool) (r : Int) (w : World) (h : (Amt x ∧ r = x ∧ c = true) ∨ (¬ Amt x ∧ r = 0 ∧ c = false)) :
    Calls Tryz.prog 139 #[.int .i64 x] w fun e w' => e = .returned (.tuple #[.int .i64 r, .bool c]) ∧ w' = w := by
  obtain ⟨d, D⟩ := says_of (Amt x)
  cases d
  · rcases h with ⟨h1, _⟩ | ⟨_, rfl, rfl⟩
    · exact absurd h1 D.no
    · go_enter Tryz.func139, Tryz.ntmps139
      go_wp2_with fail
      refine (iAmt x false _ D).mono ?_
      rintro e w1 ⟨rfl, rfl⟩
      go_wp2
      go_ret2
      exact ⟨rfl, rfl⟩
  · rcases h with ⟨h1, rfl, rfl⟩ | ⟨h1, _⟩
    · clear h1
      go_enter Tryz.func139, Tryz.ntmps139
      go_wp2_with fail
      refine (iAmt r true _ D).mono ?_
      rintro e w1 ⟨rfl, rfl⟩
      go_wp2
      go_ret2
      exact ⟨rfl, rfl⟩
    · exact absurd D.yes h1
/-- The sums so far stay far within 64 bits. -/
theorem sum_near {ps : List T3} (i : Int) (hl : ps.length ≤ 160) (h : ∀ j, j < ps.length → Amt (el3 ps j).2.2) (k : Nat) (hk : k ≤ ps.length) : -200000000000000000 ≤ sumI (ps.take k) i ∧ sumI (ps.take k) i ≤ 200000000000000000 := by
  have := sumI_bound i h k hk
  omega
set_option maxRecDepth 100000 in
theorem sSum (w : World) (g n cap : Nat) (ps : List T3) (i r : Int) (c : Bool) (hl : ps.length = n) (h20 : n ≤ 1048576) (hg : g < w.heap.size) (h : At3 w g ps) (hs : IsSum ps i r c) :
    Calls Tryz.prog 88 #[.slice (some ⟨g, 0, none⟩) n cap, .int .i64 i] w fun e w' => e = .returned (.tuple #[.int .i64 r, .bool c]) ∧ Below w.heap.size w w' := by
  obtain ⟨ok, OK⟩ := says_of (Right ps)
  have H := hide h
  have HS := hide hs
  clear h hs
  go_enter Tryz.func88, Tryz.ntmps88
  go_wp2
  go_loopw [6, 7] (fun s j wr => ∃ (k : Nat), k ≤ n ∧ j = .int .i64 k ∧ s = .int .i64 (sumI (ps.take k) i) ∧ Below w.heap.size w wr ∧ (ok = false → k = 0)) (fun _ j _ => n - (intOf j).toNat)
  case atStart => exact ⟨0, by omega, rfl, rfl, Below.refl _ _, fun _ => rfl⟩
  case round =>
    obtain ⟨k, hk, rfl, rfl, hb, hf⟩ := hrel
    have A := hide ((unhide H).below hb hg)
    have HB := hide hb
    have sz := hb.size
    clear hb
    cases ok
    · obtain rfl : k = 0 := hf rfl
      by_cases t : 0 < n
      · go_wp2_with fail
        refine (sOk _ g n cap ps false hl h20 (by omega) (unhide A) OK).mono ?_
        rintro e w1 ⟨rfl, b1⟩
        have A1 := hide ((unhide A).below b1 (by omega))
        have B1 := hide (next (unhide HB) b1)
        have s1 := b1.size
        clear b1
        have z0 : sumI [] i = 0 := rfl
        rw [z0]
        go_wp2_with fail
        refine (sOk _ g n cap ps false hl h20 (by omega) (unhide A1) OK).mono ?_
        rintro e w2 ⟨rfl, b2⟩
        have B2 := hide (next (unhide B1) b2)
        clear b2
        go_wp2_with fail
        refine (sTold 0 false c r _ (by
          rcases unhide HS with ⟨h1, _⟩ | ⟨_, h2, h3⟩
          · exact absurd h1 OK.no
          · exact .inr ⟨fun q => (by have := q.1; cases this), h2, h3⟩)).mono ?_
        rintro e w3 ⟨rfl, rfl⟩
        go_wp2
        go_ret2
        exact ⟨rfl, unhide B2⟩
      · exact absurd (show Right ps from ⟨by omega, fun i hi => by omega⟩) OK.no
    · have RB := hide (fun k hk => sum_near (ps := ps) i OK.yes.1 (fun j hj => (OK.yes.2 j hj).2.2.1) k hk)
      by_cases t : k < n
      · go_wp2_with fail
        refine (sOk _ g n cap ps true hl h20 (by omega) (unhide A) OK).mono ?_
        rintro e w1 ⟨rfl, b1⟩
        obtain ⟨e1, e2, e3⟩ := ((unhide A).below b1 (by omega)) k (by omega)
        have B1 := hide (next (unhide HB) b1)
        clear b1
        have SN := hide (sumI_next (ps := ps) (k := k) (by omega) i)
        have R1 := hide ((unhide RB) (k + 1) (by omega))
        rw [unhide SN] at R1
        generalize (el3 ps k).1 = x at *
        generalize (el3 ps k).2.1 = y at *
        generalize (el3 ps k).2.2 = z at *
        generalize sumI (ps.take k) i = S at *
        by_cases c1 : y = i
        · rw [if_pos c1] at SN R1
          have R2 := unhide R1
          have wr1 : IntKind.i64.wrap (S + z) = S + z := by rw [IntKind.wrap_i64]; omega
          clear R2
          subst c1
          go_wp2
          go_roundw
          case rel => exact ⟨k + 1, by omega, by go_num, by rw [unhide SN], unhide B1, fun q => by cases q⟩
          case measure => simp [intOf]; omega
        · rw [if_neg c1] at SN R1
          have c1b : (y == i) = false := by simpa using c1
          have SN := hide ((unhide SN).trans (Int.add_zero S))
          go_wp2
          go_roundw
          case rel => exact ⟨k + 1, by omega, by go_num, by rw [unhide SN], unhide B1, fun q => by cases q⟩
          case measure => simp [intOf]; omega
      · obtain rfl : k = n := by omega
        have e0 : sumI (ps.take k) i = sumI ps i := by rw [List.take_of_length_le (by omega)]
        rw [e0]
        clear e0
        go_wp2_with fail
        refine (sOk _ g k cap ps true hl h20 (by omega) (unhide A) OK).mono ?_
        rintro e w2 ⟨rfl, b2⟩
        have B2 := hide (next (unhide HB) b2)
        clear b2
        go_wp2_with fail
        refine (sTold (sumI ps i) true c r _ (by
          rcases unhide HS with ⟨h1, h2, h3, h4⟩ | ⟨h1, h2, h3⟩
          · exact .inl ⟨rfl, h2, h3, h4⟩
          · exact .inr ⟨fun q => h1 ⟨OK.yes, q.2⟩, h2, h3⟩)).mono ?_
        rintro e w3 ⟨rfl, rfl⟩
        go_wp2
        go_ret2
        exact ⟨rfl, unhide B2⟩
set_option maxRecDepth 100000 in
theorem iSum (w : World) (g n cap : Nat) (ps : List T3) (i r : Int) (c : Bool) (hl : ps.length = n) (h20 : n ≤ 1048576) (hg : g < w.heap.size) (h : At3 w g ps) (hs : IsSum ps i r c) :
    Calls Tryz.prog 115 #[.slice (some ⟨g, 0, none⟩) n cap, .int .i64 i] w fun e w' => e = .returned (.tuple #[.int .i64 r, .bool c]) ∧ Below w.heap.size w w' := by
  obtain ⟨ok, OK⟩ := says_of (Right ps)
  have H := hide h
  have HS := hide hs
  clear h hs
  go_enter Tryz.func115, Tryz.ntmps115
  go_wp2_with fail
  refine (iOk _ g n cap ps ok hl h20 hg (unhide H) OK).mono ?_
  rintro e w1 ⟨rfl, b1⟩
  have B1 := hide b1
  clear b1
  cases ok
  · obtain ⟨rfl, rfl⟩ : r = 0 ∧ c = false := by
      rcases unhide HS with ⟨h1, _⟩ | ⟨_, h2, h3⟩
      · exact absurd h1 OK.no
      · exact ⟨h2, h3⟩
    go_wp2
    go_ret2
    exact ⟨rfl, unhide B1⟩
  have RB := hide (fun k hk => sum_near (ps := ps) i OK.yes.1 (fun j hj => (OK.yes.2 j hj).2.2.1) k hk)
  go_wp2
  go_loopw [6, 8, 14] (fun s _ j wr => ∃ (k : Nat), k ≤ n ∧ j = .int .i64 k ∧ s = .int .i64 (sumI (ps.take k) i) ∧ Below w.heap.size w wr) (fun _ _ j _ => n - (intOf j).toNat)
  case atStart => exact ⟨0, by omega, rfl, rfl, unhide B1⟩
  case round =>
    obtain ⟨k, hk, rfl, rfl, hb⟩ := hrel
    have A := hide ((unhide H).below hb hg)
    have HB := hide hb
    clear hb
    by_cases t : k < n
    · obtain ⟨e1, e2, e3⟩ := (unhide A) k (by omega)
      have SN := hide (sumI_next (ps := ps) (k := k) (by omega) i)
      have R1 := hide ((unhide RB) (k + 1) (by omega))
      rw [unhide SN] at R1
      generalize (el3 ps k).1 = x at *
      generalize (el3 ps k).2.1 = y at *
      generalize (el3 ps k).2.2 = z at *
      generalize sumI (ps.take k) i = S at *
      have NB := hide ((unhide HB).alloc (unhide HB).size (.cells #[.int .i64 x, .int .i64 y, .int .i64 z] 102))
      by_cases c1 : y = i
      · rw [if_pos c1] at SN R1
        have R2 := unhide R1
        have wr1 : IntKind.i64.wrap (S + z) = S + z := by rw [IntKind.wrap_i64]; omega
        clear R2
        subst c1
        go_wp2
        go_roundw
        case rel => exact ⟨k + 1, by omega, by go_num, by rw [unhide SN], unhide NB⟩
        case measure => simp [intOf]; omega
      · rw [if_neg c1] at SN R1
        have c1b : (y == i) = false := by simpa using c1
        have SN := hide ((unhide SN).trans (Int.add_zero S))
        go_wp2
        go_roundw
        case rel => exact ⟨k + 1, by omega, by go_num, by rw [unhide SN], unhide NB⟩
        case measure => simp [intOf]; omega
    · obtain rfl : k = n := by omega
      have e0 : sumI (ps.take k) i = sumI ps i := by rw [List.take_of_length_le (by omega)]
      rw [e0]
      clear e0
      go_wp2_with fail
      refine (iOnly (sumI ps i) c r _ (by
        rcases unhide HS with ⟨h1, h2, h3, h4⟩ | ⟨h1, h2, h3⟩
        · exact .inl ⟨h2, h3, h4⟩
        · exact .inr ⟨fun q => h1 ⟨OK.yes, q⟩, h2, h3⟩)).mono ?_
      rintro e w3 ⟨rfl, rfl⟩
      go_wp2
      go_ret2
      exact ⟨rfl, unhide HB⟩
theorem sum_is (ps : List T3) (i : Int) : ∃ r c, IsSum ps i r c := by
  by_cases h : Right ps ∧ Amt (sumI ps i)
  · exact ⟨_, _, .inl ⟨h.1, h.2, rfl, rfl⟩⟩
  · exact ⟨_, _, .inr ⟨h, rfl, rfl⟩⟩
end Go.Proofs.YteccbaohfmhnfaaGreat.Look
namespace Go.Proofs.YteccbaohfmhnfaaGreat.IBalsFit
open Go.ChangeShapes Go.WideShapes Go.ChangeAt Go.RowKit BMem Bks IRead IHave ITrade ILists
open Lots (Says says_of NoOk)
open Bals (T3 el3 val sumI)
open Triples (At3 Holds3)
theorem all_one {p : Int → Prop} {y : Int} {b : Bool} (h : Says b (p y)) : Says b (∀ z ∈ [y], p z) := by
  constructor
  · intro e z hz
    simp at hz
    subst hz
    exact h.1 e
  · intro e
    exact h.2 (e y (by simp))
/-- What a call leaves of books in a block, and of a struct of three numbers in another one. -/
structure St (w W : World) (x : Bx) : Prop where
  r : Rd W x
  c : Cl W w.heap.size x
  b : Below w.heap.size w W
  s : w.heap.size < W.heap.size
theorem St.step {w W W' : World} {x : Bx} (h : St w W x) (k : Below W.heap.size W W') : St w W' x :=
  ⟨h.r.below k, h.c.below k h.s, h.b.trans (k.mono (Nat.le_of_lt h.s)), Nat.lt_of_lt_of_le h.s k.size⟩
theorem St.start {w : World} {x : Bx} (h : Rd w x) (e : TypeId) : St w (w.alloc (.cells #[.slice (some ⟨x.ga, 0, none⟩) x.b.ac.length x.ca, .slice (some ⟨x.gi, 0, none⟩) x.b.ic.length x.ci, .slice (some ⟨x.gb, 0, none⟩) x.b.bs.length x.cb, .slice (some ⟨x.gl, 0, none⟩) x.b.ls.length x.cl, .slice (some ⟨x.gt, 0, none⟩) x.b.ts.length x.ct, .int .i64 x.b.lot] e)) x :=
  ⟨h.alloc _, boxed w x e, (Below.refl w.heap.size w).alloc (Nat.le_refl _) _, by simp⟩
theorem one_more (w : World) (o : Obj) : Below w.heap.size w (w.alloc o) := (Below.refl _ _).alloc (Nat.le_refl _) _
set_option maxRecDepth 100000 in
set_option maxHeartbeats 4000000 in
theorem iBalsFit (w : World) (x : Bx) (b : Bool) (h : Rd w x) (hl : Lists x.b) (hb : Says b (BalsFit x.b)) :
    Calls Tryz.prog 100 #[.agg #[.slice (some ⟨x.ga, 0, none⟩) x.b.ac.length x.ca, .slice (some ⟨x.gi, 0, none⟩) x.b.ic.length x.ci, .slice (some ⟨x.gb, 0, none⟩) x.b.bs.length x.cb, .slice (some ⟨x.gl, 0, none⟩) x.b.ls.length x.cl, .slice (some ⟨x.gt, 0, none⟩) x.b.ts.length x.ct, .int .i64 x.b.lot]] w fun e w' => e = .returned (.bool b) ∧ Below w.heap.size w w' := by
  have T := hide hb
  have L := hide hl
  have S0 := hide (St.start h 36)
  have nb := h.nb
  have ni := h.ni
  have G0 := hide h.lb
  have G1 := hide h.li
  have A0 := hide h.rb
  have A1 := hide h.ri
  clear hb hl h
  go_enter Tryz.func100, Tryz.ntmps100
  go_wp2
  go_loopw [12] (fun i wr => ∃ (k : Nat), k ≤ x.b.bs.length ∧ i = .int .i64 k ∧ St w wr x ∧ Hid (∀ j, j < k → BalFit x.b (el3 x.b.bs j))) (fun i _ => x.b.bs.length - (intOf i).toNat)
  case atStart => exact ⟨0, by omega, rfl, unhide S0, hide (fun i hi => absurd hi (by omega))⟩
  case round =>
    obtain ⟨k, hk, rfl, hS, HG⟩ := hrel
    clear S0
    by_cases t : k < x.b.bs.length
    · obtain ⟨d0, d1, d2⟩ := (hS.r.rb k t)
      obtain ⟨c0, c1, c2, c3, c4, c5⟩ := hS.c
      have BAD := hide (show ¬ BalFit x.b (el3 x.b.bs k) → b = false from fun hr => (unhide T).not (fun r => hr (r.1 k t)))
      have GOOD := hide (show BalFit x.b (el3 x.b.bs k) → ∀ i, i < k + 1 → BalFit x.b (el3 x.b.bs i) from fun hr i hi => by
        by_cases e : i = k
        · subst e; exact hr
        · exact (unhide HG) i (by omega))
      have FIT := hide (show BalFit x.b (el3 x.b.bs k) ↔ kindOf x.b.ac (el3 x.b.bs k).1 ≠ 0 ∧ kindOf x.b.ic (el3 x.b.bs k).2.1 ≠ 0 ∧ ¬ (kindOf x.b.ac (el3 x.b.bs k).1 = 1 ∧ (el3 x.b.bs k).2.2 < 0) from Iff.rfl)
      have wz := hS.s
      have S1 := hide (hS.step (one_more wr (.cells #[.int .i64 (el3 x.b.bs k).1, .int .i64 (el3 x.b.bs k).2.1, .int .i64 (el3 x.b.bs k).2.2] 102)))
      clear hS
      generalize (el3 x.b.bs k).1 = y0 at *
      generalize (el3 x.b.bs k).2.1 = y1 at *
      generalize (el3 x.b.bs k).2.2 = y2 at *
      obtain ⟨b0, h0⟩ := says_of (kindOf x.b.ac y0 ≠ 0)
      obtain ⟨b1, h1⟩ := says_of (kindOf x.b.ic y1 ≠ 0)
      obtain ⟨b2, h2⟩ := says_of (kindOf x.b.ac y0 = 1)
      have H0 := hide h0
      have H1 := hide h1
      have H2 := hide h2
      clear h0 h1 h2
      go_wp2_with fail
      have S2 := hide ((unhide S1).step (one_more _ (.cells #[.int .i64 y0] 3)))
      refine (iHaveAccounts _ x (wr.heap.size + 1) 1 1 [y0] b0 (unhide S2).r (unhide L).1 rfl (by omega) (by simp) (at_new _ [y0] _ (by simp) rfl) (all_one (unhide H0))).mono ?_
      rintro e w1 ⟨rfl, bb⟩
      have S3 := hide ((unhide S2).step bb)
      have f0 : w1.cell? ⟨wr.heap.size, 0, none⟩ = some (.int .i64 y0) := (bb.cell (p := ⟨wr.heap.size, 0, none⟩) (by simp; omega)).trans (by simp)
      have f1 : w1.cell? ⟨wr.heap.size, 1, none⟩ = some (.int .i64 y1) := (bb.cell (p := ⟨wr.heap.size, 1, none⟩) (by simp; omega)).trans (by simp)
      have f2 : w1.cell? ⟨wr.heap.size, 2, none⟩ = some (.int .i64 y2) := (bb.cell (p := ⟨wr.heap.size, 2, none⟩) (by simp; omega)).trans (by simp)
      have z1 : wr.heap.size < w1.heap.size := by have := bb.size; simp at this; omega
      clear bb c0 c1 c2 c3 c4 c5 d0 d1 d2
      obtain ⟨c0, c1, c2, c3, c4, c5⟩ := (unhide S3).c
      cases b0
      · have F := hide ((unhide BAD) (fun hh => (unhide H0).no ((unhide FIT).1 hh).1))
        clear BAD GOOD FIT T
        go_wp2
        go_ret
        exact ⟨by rw [unhide F]; rfl, (unhide S3).b⟩
      go_wp2_with fail
      have S4 := hide ((unhide S3).step (one_more _ (.cells #[.int .i64 y1] 3)))
      refine (iHaveInstrs _ x w1.heap.size 1 1 [y1] b1 (unhide S4).r (unhide L).2.1 rfl (by omega) (by simp) (at_new _ [y1] _ rfl rfl) (all_one (unhide H1))).mono ?_
      rintro e w2 ⟨rfl, bb⟩
      have S5 := hide ((unhide S4).step bb)
      have g0 : w2.cell? ⟨wr.heap.size, 0, none⟩ = some (.int .i64 y0) := (bb.cell (p := ⟨wr.heap.size, 0, none⟩) (by simp; omega)).trans ((World.cell?_alloc_past _ _ _ z1).trans f0)
      have g2 : w2.cell? ⟨wr.heap.size, 2, none⟩ = some (.int .i64 y2) := (bb.cell (p := ⟨wr.heap.size, 2, none⟩) (by simp; omega)).trans ((World.cell?_alloc_past _ _ _ z1).trans f2)
      clear bb c0 c1 c2 c3 c4 c5 f0 f1 f2
      obtain ⟨c0, c1, c2, c3, c4, c5⟩ := (unhide S5).c
      cases b1
      · have F := hide ((unhide BAD) (fun hh => (unhide H1).no ((unhide FIT).1 hh).2.1))
        clear BAD GOOD FIT T
        go_wp2
        go_ret
        exact ⟨by rw [unhide F]; rfl, (unhide S5).b⟩
      by_cases q : y2 < 0
      · go_wp2_with fail
        refine (iHolder _ x y0 b2 (unhide S5).r (unhide L).1 (unhide H2)).mono ?_
        rintro e w3 ⟨rfl, bb⟩
        have S6 := hide ((unhide S5).step bb)
        clear bb c0 c1 c2 c3 c4 c5
        cases b2
        · have G := hide ((unhide GOOD) ((unhide FIT).2 ⟨(unhide H0).yes, (unhide H1).yes, fun r => (unhide H2).no r.1⟩))
          clear BAD GOOD FIT
          go_wp2
          go_roundw
          case rel => exact ⟨k + 1, by omega, by go_num, unhide S6, G⟩
          case measure => simp [intOf]; omega
        · have F := hide ((unhide BAD) (fun hh => ((unhide FIT).1 hh).2.2 ⟨(unhide H2).yes, q⟩))
          clear BAD GOOD FIT T
          go_wp2
          go_ret
          exact ⟨by rw [unhide F]; rfl, (unhide S6).b⟩
      · have G := hide ((unhide GOOD) ((unhide FIT).2 ⟨(unhide H0).yes, (unhide H1).yes, fun r => q r.2⟩))
        have hq : decide (y2 < 0) = false := decide_eq_false q
        clear BAD GOOD FIT q
        go_wp2
        go_roundw
        case rel => exact ⟨k + 1, by omega, by go_num, unhide S5, G⟩
        case measure => simp [intOf]; omega
    · have ALL := hide (show ∀ k, k < x.b.bs.length → BalFit x.b (el3 x.b.bs k) from fun j hj => (unhide HG) j (by omega))
      obtain ⟨c0, c1, c2, c3, c4, c5⟩ := hS.c
      have S1 := hide hS
      clear hS HG
      go_wp2
      go_loopw [43] (fun i wr => ∃ (k : Nat), k ≤ x.b.ic.length ∧ i = .int .i64 k ∧ St w wr x ∧ Hid (∀ j, j < k → sumI x.b.bs (Chart.el x.b.ic j).1 = 0)) (fun i _ => x.b.ic.length - (intOf i).toNat)
      case atStart => exact ⟨0, by omega, rfl, unhide S1, hide (fun i hi => absurd hi (by omega))⟩
      case round =>
        clear c0 c1 c2 c3 c4 c5 S1 hk t
        obtain ⟨k, hk, rfl, hS, HG⟩ := hrel
        by_cases t : k < x.b.ic.length
        · obtain ⟨d0, d1⟩ := (hS.r.ri k t)
          have c2 := hS.c.c2
          have S1 := hide (hS.step (one_more _ (.cells #[.int .i64 (Chart.el x.b.ic k).1, .int .i64 (Chart.el x.b.ic k).2] 87)))
          have wz := hS.s
          clear hS
          have BAD := hide (show sumI x.b.bs (Chart.el x.b.ic k).1 ≠ 0 → b = false from fun hr => (unhide T).not (fun r => hr (r.2 _)))
          have GOOD := hide (show sumI x.b.bs (Chart.el x.b.ic k).1 = 0 → ∀ i, i < k + 1 → sumI x.b.bs (Chart.el x.b.ic i).1 = 0 from fun hr i hi => by
            by_cases e : i = k
            · subst e; exact hr
            · exact (unhide HG) i (by omega))
          generalize (Chart.el x.b.ic k).1 = y0 at *
          generalize (Chart.el x.b.ic k).2 = y1 at *
          obtain ⟨r, c, hs⟩ := Look.sum_is x.b.bs y0
          have Z := hide (sum_zero (unhide L).2.2.1 hs)
          have HS := hide hs
          clear hs
          go_wp2_with fail
          refine (Look.iSum _ x.gb _ x.cb x.b.bs y0 r c rfl nb (unhide S1).r.lb (unhide S1).r.rb (unhide HS)).mono ?_
          rintro e w1 ⟨rfl, bb⟩
          have S2 := hide ((unhide S1).step bb)
          clear bb c2 d0 d1
          cases c
          · have F := hide ((unhide BAD) (fun e => by have := (unhide Z).2 e; cases this.1))
            clear BAD GOOD T
            go_wp2
            go_ret
            exact ⟨by rw [unhide F]; rfl, (unhide S2).b⟩
          by_cases q : r = 0
          · have G := hide ((unhide GOOD) ((unhide Z).1 ⟨rfl, q⟩))
            have hq : (r != 0) = false := by simp [q]
            clear BAD GOOD q
            go_wp2
            go_roundw
            case rel => exact ⟨k + 1, by omega, by go_num, unhide S2, G⟩
            case measure => simp [intOf]; omega
          · have F := hide ((unhide BAD) (fun e => q ((unhide Z).2 e).2))
            have hq : (r != 0) = true := by simp [q]
            clear BAD GOOD T q
            go_wp2
            go_ret
            exact ⟨by rw [unhide F]; rfl, (unhide S2).b⟩
        · have F := hide ((unhide T).of (bals_impl (unhide ALL) (fun j hj => (unhide HG) j (by omega))))
          have S1 := hide hS
          clear hS
          go_wp2
          go_ret
          exact ⟨by rw [unhide F]; rfl, (unhide S1).b⟩
end Go.Proofs.YteccbaohfmhnfaaGreat.IBalsFit
namespace Go.Proofs.YteccbaohfmhnfaaGreat.AccountSOk
open Go.ChangeShapes Go.WideShapes Go.ChangeAt Go.RowKit Pairs Chart
/-- b tells whether x is between two numbers. -/
def Tells (b : Bool) (x lo hi : Int) : Prop := b = true ↔ lo ≤ x ∧ x ≤ hi
theorem tells_of (x lo hi : Int) : ∃ b, Tells b x lo hi := bool_of _
/-- Between two numbers. -/
theorem sIn (x lo hi : Int) (b : Bool) (w : World) (hb : Tells b x lo hi) :
    Calls Tryz.prog 55 #[.int .i64 x, .int .i64 lo, .int .i64 hi] w fun e w' => e = .returned (.bool b) ∧ w' = w := by
  cases b
  · have H := hide (show lo ≤ x → ¬ x ≤ hi from fun h1 h2 => Bool.noConfusion ((unhide hb).2 ⟨h1, h2⟩))
    clear hb
    by_cases h1 : lo ≤ x
    · have h2 := (unhide H) h1
      clear H
      go_enter Tryz.func55, Tryz.ntmps55
      go_wp2
      go_ret
      exact ⟨rfl, rfl⟩
    · clear H
      go_enter Tryz.func55, Tryz.ntmps55
      go_wp2
      go_ret
      exact ⟨rfl, rfl⟩
  · obtain ⟨h1, h2⟩ := (unhide hb).1 rfl
    clear hb
    go_enter Tryz.func55, Tryz.ntmps55
    go_wp2
    go_ret
    exact ⟨rfl, rfl⟩
theorem sNo (x : Int) (b : Bool) (w : World) (hb : Tells b x 1 1000) :
    Calls Tryz.prog 17 #[.int .i64 x] w fun e w' => e = .returned (.bool b) ∧ w' = w := by
  go_enter Tryz.func17, Tryz.ntmps17
  go_wp2_with fail
  refine (sIn x 1 1000 b _ hb).mono ?_
  rintro e w' ⟨rfl, rfl⟩
  go_wp2
  go_ret
  exact ⟨rfl, rfl⟩
theorem drewN_more {w wr : World} (h : ∃ q, wr = w.drewN q) (m : Nat) : ∃ q, wr.drewN m = w.drewN q := by
  obtain ⟨q, rfl⟩ := h
  exact ⟨q + m, World.drewN_drewN ..⟩
set_option maxRecDepth 100000 in
set_option maxHeartbeats 2000000 in
theorem sOk (w : World) (g n cap : Nat) (ps : List (Int × Int)) (ok : Bool) (hl : ps.length = n) (h20 : n ≤ 1048576) (h : At w g ps) (hok : Says ok 20 4 ps) :
    Calls Tryz.prog 50 #[.slice (some ⟨g, 0, none⟩) n cap] w fun e w' => e = .returned (.bool ok) ∧ ∃ q, w' = w.drewN q := by
  by_cases nn : (20 : Int) < (n : Int)
  · obtain rfl : ok = false := hok.not (fun r => by have := r.1; omega)
    clear hok h
    go_enter Tryz.func50, Tryz.ntmps50
    go_wp2
    go_ret
    exact ⟨rfl, 0, rfl⟩
  go_enter Tryz.func50, Tryz.ntmps50
  go_wp2
  go_loopw [3] (fun i wr => ∃ (k : Nat), k ≤ n ∧ i = .int .i64 k ∧ At wr g ps ∧ Hid (∃ q, wr = w.drewN q) ∧ Hid (∀ i, i < k → RowOk 4 ps i)) (fun i _ => n - (intOf i).toNat)
  case atStart => exact ⟨0, by omega, rfl, h, hide ⟨0, rfl⟩, hide (fun i hi => absurd hi (by omega))⟩
  case round =>
    clear h
    obtain ⟨k, hk, rfl, h, HQ, HG⟩ := hrel
    by_cases t : k < n
    · obtain ⟨e1, e2⟩ := h k (by omega)
      have e3 : 0 < k → wr.cell? ⟨g, (k - 1) * 2, none⟩ = some (.int .i64 (el ps (k - 1)).1) := fun k0 => (h (k - 1) (by omega)).1
      obtain ⟨b1, B1⟩ := tells_of (el ps k).1 1 1000
      obtain ⟨b2, B2⟩ := tells_of (el ps k).2 1 4
      have ROW := hide (show RowOk 4 ps k ↔ (b1 = true) ∧ (b2 = true) ∧ (0 < k → (el ps (k - 1)).1 < (el ps k).1) from by unfold Tells at B1 B2; rw [B1, B2]; exact Iff.rfl)
      have HA := hide h
      clear h
      have BAD := hide (show ¬ RowOk 4 ps k → ok = false from fun hr => hok.not (fun r => hr (r.2 k (by omega))))
      have GOOD := hide (show RowOk 4 ps k → ∀ i, i < k + 1 → RowOk 4 ps i from fun hr i hi => by
        by_cases e : i = k
        · subst e; exact hr
        · exact (unhide HG) i (by omega))
      generalize (el ps k).1 = x at *
      generalize (el ps k).2 = y at *
      cases b1
      · have OKF := hide ((unhide BAD) (fun hr => by have := ((unhide ROW).1 hr).1; cases this))
        clear BAD GOOD ROW e3
        go_wp2_with fail
        go_quiet (first | (go_at_call 17; refine Calls.quiet_of_same (sNo _ false _ B1)))
        go_wp2
        go_ret
        exact ⟨by rw [unhide OKF]; rfl, drewN_more (unhide HQ) _⟩
      · cases b2
        · have OKF := hide ((unhide BAD) (fun hr => by have := ((unhide ROW).1 hr).2.1; cases this))
          clear BAD GOOD ROW e3
          go_wp2_with fail
          go_quiet (first | (go_at_call 17; refine Calls.quiet_of_same (sNo _ true _ B1)) | (go_at_call 55; refine Calls.quiet_of_same (sIn _ _ _ false _ B2)))
          go_wp2
          go_ret
          exact ⟨by rw [unhide OKF]; rfl, drewN_more (unhide HQ) _⟩
        · by_cases k0 : 0 < k
          · have e3 := e3 k0
            have k1 : (0 : Int) < (k : Int) := by omega
            have k2 : (0 : Int) ≤ (k : Int) - 1 := by omega
            have k3 : ((k : Int) - 1).toNat = k - 1 := by omega
            by_cases lt : (el ps (k - 1)).1 < x
            · have GO := hide ((unhide GOOD) ((unhide ROW).2 ⟨rfl, rfl, fun _ => lt⟩))
              clear BAD GOOD ROW
              have ge : ¬ x ≤ (el ps (k - 1)).1 := by omega
              generalize (el ps (k - 1)).1 = z at *
              go_wp2_with fail
              go_quiet (first | (go_at_call 17; refine Calls.quiet_of_same (sNo _ true _ B1)) | (go_at_call 55; refine Calls.quiet_of_same (sIn _ _ _ true _ B2)))
              go_wp2
              go_roundw
              case rel => exact ⟨k + 1, by omega, by go_num, unhide HA, hide (drewN_more (unhide HQ) _), GO⟩
              case measure => simp [intOf]; omega
            · have OKF := hide ((unhide BAD) (fun hr => lt (((unhide ROW).1 hr).2.2 k0)))
              clear BAD GOOD ROW
              have ge : x ≤ (el ps (k - 1)).1 := by omega
              generalize (el ps (k - 1)).1 = z at *
              go_wp2_with fail
              go_quiet (first | (go_at_call 17; refine Calls.quiet_of_same (sNo _ true _ B1)) | (go_at_call 55; refine Calls.quiet_of_same (sIn _ _ _ true _ B2)))
              go_wp2
              go_ret
              exact ⟨by rw [unhide OKF]; rfl, drewN_more (unhide HQ) _⟩
          · obtain rfl : k = 0 := by omega
            have GO := hide ((unhide GOOD) ((unhide ROW).2 ⟨rfl, rfl, fun h0 => absurd h0 k0⟩))
            clear BAD GOOD ROW e3
            go_wp2_with fail
            go_quiet (first | (go_at_call 17; refine Calls.quiet_of_same (sNo _ true _ B1)) | (go_at_call 55; refine Calls.quiet_of_same (sIn _ _ _ true _ B2)))
            go_wp2
            go_roundw
            case rel => exact ⟨1, by omega, by go_num, unhide HA, hide (drewN_more (unhide HQ) _), GO⟩
            case measure => simp [intOf]; omega
    · obtain rfl : k = n := by omega
      obtain rfl : ok = true := hok.of ⟨by omega, by rw [hl]; exact unhide HG⟩
      clear h hok
      go_wp2
      go_ret
      exact ⟨rfl, unhide HQ⟩
set_option maxRecDepth 100000 in
set_option maxHeartbeats 2000000 in
theorem sKind (w : World) (g n cap : Nat) (ps : List (Int × Int)) (no : Int) (hl : ps.length = n) (h20 : n ≤ 1048576) (h : At w g ps) :
    Calls Tryz.prog 19 #[.slice (some ⟨g, 0, none⟩) n cap, .int .i64 no] w fun e w' => ∃ r, IsKind 20 4 ps no r ∧ e = .returned (.int .i64 r) ∧ ∃ q, w' = w.drewN q := by
  obtain ⟨ok, OK⟩ := says_of 20 4 ps
  go_enter Tryz.func19, Tryz.ntmps19
  go_wp2
  go_loopw [5] (fun i wr => ∃ (k : Nat), k ≤ n ∧ i = .int .i64 k ∧ At wr g ps ∧ Hid (∃ q, wr = w.drewN q) ∧ Hid (∀ i, i < k → (el ps i).1 ≠ no)) (fun i _ => n - (intOf i).toNat)
  case atStart => exact ⟨0, by omega, rfl, h, hide ⟨0, rfl⟩, hide (fun i hi => absurd hi (by omega))⟩
  case round =>
    clear h
    obtain ⟨k, hk, rfl, h, HQ, HG⟩ := hrel
    by_cases t : k < n
    · obtain ⟨e1, e2⟩ := h k (by omega)
      have HA := hide h
      clear h
      have GO := hide (show (el ps k).1 ≠ no → ∀ i, i < k + 1 → (el ps i).1 ≠ no from fun hn i hi => by
        by_cases e : i = k
        · subst e; exact hn
        · exact (unhide HG) i (by omega))
      have YES := hide (show ok = true → (el ps k).1 = no → IsKind 20 4 ps no (el ps k).2 from fun ho he => .inl ⟨OK.1 ho, k, by omega, he, rfl⟩)
      generalize (el ps k).1 = x at *
      generalize (el ps k).2 = y at *
      cases ok
      · go_wp2_with fail
        refine (sOk _ _ _ _ ps false hl h20 (unhide HA) OK).mono ?_
        rintro e w2 ⟨rfl, nq, rfl⟩
        go_wp2
        go_ret
        exact ⟨0, .inr ⟨.inl OK.no, rfl⟩, rfl, drewN_more (unhide HQ) _⟩
      · go_wp2_with fail
        refine (sOk _ _ _ _ ps true hl h20 (unhide HA) OK).mono ?_
        rintro e w2 ⟨rfl, nq, rfl⟩
        by_cases eq : x = no
        · have Y := hide ((unhide YES) (by trivial) eq)
          clear YES GO
          subst eq
          go_wp2
          go_ret
          exact ⟨y, unhide Y, rfl, drewN_more (unhide HQ) _⟩
        · have eqb : (x == no) = false := by simpa using eq
          have G := hide ((unhide GO) eq)
          clear YES GO
          go_wp2
          go_roundw
          case rel => exact ⟨k + 1, by omega, by go_num, unhide HA, hide (drewN_more (unhide HQ) _), G⟩
          case measure => simp [intOf]; omega
    · obtain rfl : k = n := by omega
      have K0 := hide (show IsKind 20 4 ps no 0 from .inr ⟨.inr (fun i hi => (unhide HG) i (by omega)), rfl⟩)
      clear h
      go_wp2
      go_ret
      exact ⟨0, unhide K0, rfl, unhide HQ⟩
end Go.Proofs.YteccbaohfmhnfaaGreat.AccountSOk
namespace Go.Proofs.YteccbaohfmhnfaaGreat.InstrSOk
open Go.ChangeShapes Go.WideShapes Go.ChangeAt Go.RowKit Pairs Chart
/-- b tells whether x is between two numbers. -/
def Tells (b : Bool) (x lo hi : Int) : Prop := b = true ↔ lo ≤ x ∧ x ≤ hi
theorem tells_of (x lo hi : Int) : ∃ b, Tells b x lo hi := bool_of _
/-- Between two numbers. -/
theorem sIn (x lo hi : Int) (b : Bool) (w : World) (hb : Tells b x lo hi) :
    Calls Tryz.prog 55 #[.int .i64 x, .int .i64 lo, .int .i64 hi] w fun e w' => e = .returned (.bool b) ∧ w' = w := by
  cases b
  · have H := hide (show lo ≤ x → ¬ x ≤ hi from fun h1 h2 => Bool.noConfusion ((unhide hb).2 ⟨h1, h2⟩))
    clear hb
    by_cases h1 : lo ≤ x
    · have h2 := (unhide H) h1
      clear H
      go_enter Tryz.func55, Tryz.ntmps55
      go_wp2
      go_ret
      exact ⟨rfl, rfl⟩
    · clear H
      go_enter Tryz.func55, Tryz.ntmps55
      go_wp2
      go_ret
      exact ⟨rfl, rfl⟩
  · obtain ⟨h1, h2⟩ := (unhide hb).1 rfl
    clear hb
    go_enter Tryz.func55, Tryz.ntmps55
    go_wp2
    go_ret
    exact ⟨rfl, rfl⟩
theorem sNo (x : Int) (b : Bool) (w : World) (hb : Tells b x 1 1000) :
    Calls Tryz.prog 17 #[.int .i64 x] w fun e w' => e = .returned (.bool b) ∧ w' = w := by
  go_enter Tryz.func17, Tryz.ntmps17
  go_wp2_with fail
  refine (sIn x 1 1000 b _ hb).mono ?_
  rintro e w' ⟨rfl, rfl⟩
  go_wp2
  go_ret
  exact ⟨rfl, rfl⟩
theorem drewN_more {w wr : World} (h : ∃ q, wr = w.drewN q) (m : Nat) : ∃ q, wr.drewN m = w.drewN q := by
  obtain ⟨q, rfl⟩ := h
  exact ⟨q + m, World.drewN_drewN ..⟩
set_option maxRecDepth 100000 in
set_option maxHeartbeats 2000000 in
theorem sOk (w : World) (g n cap : Nat) (ps : List (Int × Int)) (ok : Bool) (hl : ps.length = n) (h20 : n ≤ 1048576) (h : At w g ps) (hok : Says ok 8 2 ps) :
    Calls Tryz.prog 51 #[.slice (some ⟨g, 0, none⟩) n cap] w fun e w' => e = .returned (.bool ok) ∧ ∃ q, w' = w.drewN q := by
  by_cases nn : (8 : Int) < (n : Int)
  · obtain rfl : ok = false := hok.not (fun r => by have := r.1; omega)
    clear hok h
    go_enter Tryz.func51, Tryz.ntmps51
    go_wp2
    go_ret
    exact ⟨rfl, 0, rfl⟩
  go_enter Tryz.func51, Tryz.ntmps51
  go_wp2
  go_loopw [3] (fun i wr => ∃ (k : Nat), k ≤ n ∧ i = .int .i64 k ∧ At wr g ps ∧ Hid (∃ q, wr = w.drewN q) ∧ Hid (∀ i, i < k → RowOk 2 ps i)) (fun i _ => n - (intOf i).toNat)
  case atStart => exact ⟨0, by omega, rfl, h, hide ⟨0, rfl⟩, hide (fun i hi => absurd hi (by omega))⟩
  case round =>
    clear h
    obtain ⟨k, hk, rfl, h, HQ, HG⟩ := hrel
    by_cases t : k < n
    · obtain ⟨e1, e2⟩ := h k (by omega)
      have e3 : 0 < k → wr.cell? ⟨g, (k - 1) * 2, none⟩ = some (.int .i64 (el ps (k - 1)).1) := fun k0 => (h (k - 1) (by omega)).1
      obtain ⟨b1, B1⟩ := tells_of (el ps k).1 1 1000
      obtain ⟨b2, B2⟩ := tells_of (el ps k).2 1 2
      have ROW := hide (show RowOk 2 ps k ↔ (b1 = true) ∧ (b2 = true) ∧ (0 < k → (el ps (k - 1)).1 < (el ps k).1) from by unfold Tells at B1 B2; rw [B1, B2]; exact Iff.rfl)
      have HA := hide h
      clear h
      have BAD := hide (show ¬ RowOk 2 ps k → ok = false from fun hr => hok.not (fun r => hr (r.2 k (by omega))))
      have GOOD := hide (show RowOk 2 ps k → ∀ i, i < k + 1 → RowOk 2 ps i from fun hr i hi => by
        by_cases e : i = k
        · subst e; exact hr
        · exact (unhide HG) i (by omega))
      generalize (el ps k).1 = x at *
      generalize (el ps k).2 = y at *
      cases b1
      · have OKF := hide ((unhide BAD) (fun hr => by have := ((unhide ROW).1 hr).1; cases this))
        clear BAD GOOD ROW e3
        go_wp2_with fail
        go_quiet (first | (go_at_call 17; refine Calls.quiet_of_same (sNo _ false _ B1)))
        go_wp2
        go_ret
        exact ⟨by rw [unhide OKF]; rfl, drewN_more (unhide HQ) _⟩
      · cases b2
        · have OKF := hide ((unhide BAD) (fun hr => by have := ((unhide ROW).1 hr).2.1; cases this))
          clear BAD GOOD ROW e3
          go_wp2_with fail
          go_quiet (first | (go_at_call 17; refine Calls.quiet_of_same (sNo _ true _ B1)) | (go_at_call 55; refine Calls.quiet_of_same (sIn _ _ _ false _ B2)))
          go_wp2
          go_ret
          exact ⟨by rw [unhide OKF]; rfl, drewN_more (unhide HQ) _⟩
        · by_cases k0 : 0 < k
          · have e3 := e3 k0
            have k1 : (0 : Int) < (k : Int) := by omega
            have k2 : (0 : Int) ≤ (k : Int) - 1 := by omega
            have k3 : ((k : Int) - 1).toNat = k - 1 := by omega
            by_cases lt : (el ps (k - 1)).1 < x
            · have GO := hide ((unhide GOOD) ((unhide ROW).2 ⟨rfl, rfl, fun _ => lt⟩))
              clear BAD GOOD ROW
              have ge : ¬ x ≤ (el ps (k - 1)).1 := by omega
              generalize (el ps (k - 1)).1 = z at *
              go_wp2_with fail
              go_quiet (first | (go_at_call 17; refine Calls.quiet_of_same (sNo _ true _ B1)) | (go_at_call 55; refine Calls.quiet_of_same (sIn _ _ _ true _ B2)))
              go_wp2
              go_roundw
              case rel => exact ⟨k + 1, by omega, by go_num, unhide HA, hide (drewN_more (unhide HQ) _), GO⟩
              case measure => simp [intOf]; omega
            · have OKF := hide ((unhide BAD) (fun hr => lt (((unhide ROW).1 hr).2.2 k0)))
              clear BAD GOOD ROW
              have ge : x ≤ (el ps (k - 1)).1 := by omega
              generalize (el ps (k - 1)).1 = z at *
              go_wp2_with fail
              go_quiet (first | (go_at_call 17; refine Calls.quiet_of_same (sNo _ true _ B1)) | (go_at_call 55; refine Calls.quiet_of_same (sIn _ _ _ true _ B2)))
              go_wp2
              go_ret
              exact ⟨by rw [unhide OKF]; rfl, drewN_more (unhide HQ) _⟩
          · obtain rfl : k = 0 := by omega
            have GO := hide ((unhide GOOD) ((unhide ROW).2 ⟨rfl, rfl, fun h0 => absurd h0 k0⟩))
            clear BAD GOOD ROW e3
            go_wp2_with fail
            go_quiet (first | (go_at_call 17; refine Calls.quiet_of_same (sNo _ true _ B1)) | (go_at_call 55; refine Calls.quiet_of_same (sIn _ _ _ true _ B2)))
            go_wp2
            go_roundw
            case rel => exact ⟨1, by omega, by go_num, unhide HA, hide (drewN_more (unhide HQ) _), GO⟩
            case measure => simp [intOf]; omega
    · obtain rfl : k = n := by omega
      obtain rfl : ok = true := hok.of ⟨by omega, by rw [hl]; exact unhide HG⟩
      clear h hok
      go_wp2
      go_ret
      exact ⟨rfl, unhide HQ⟩
set_option maxRecDepth 100000 in
set_option maxHeartbeats 2000000 in
theorem sKind (w : World) (g n cap : Nat) (ps : List (Int × Int)) (no : Int) (hl : ps.length = n) (h20 : n ≤ 1048576) (h : At w g ps) :
    Calls Tryz.prog 20 #[.slice (some ⟨g, 0, none⟩) n cap, .int .i64 no] w fun e w' => ∃ r, IsKind 8 2 ps no r ∧ e = .returned (.int .i64 r) ∧ ∃ q, w' = w.drewN q := by
  obtain ⟨ok, OK⟩ := says_of 8 2 ps
  go_enter Tryz.func20, Tryz.ntmps20
  go_wp2
  go_loopw [5] (fun i wr => ∃ (k : Nat), k ≤ n ∧ i = .int .i64 k ∧ At wr g ps ∧ Hid (∃ q, wr = w.drewN q) ∧ Hid (∀ i, i < k → (el ps i).1 ≠ no)) (fun i _ => n - (intOf i).toNat)
  case atStart => exact ⟨0, by omega, rfl, h, hide ⟨0, rfl⟩, hide (fun i hi => absurd hi (by omega))⟩
  case round =>
    clear h
    obtain ⟨k, hk, rfl, h, HQ, HG⟩ := hrel
    by_cases t : k < n
    · obtain ⟨e1, e2⟩ := h k (by omega)
      have HA := hide h
      clear h
      have GO := hide (show (el ps k).1 ≠ no → ∀ i, i < k + 1 → (el ps i).1 ≠ no from fun hn i hi => by
        by_cases e : i = k
        · subst e; exact hn
        · exact (unhide HG) i (by omega))
      have YES := hide (show ok = true → (el ps k).1 = no → IsKind 8 2 ps no (el ps k).2 from fun ho he => .inl ⟨OK.1 ho, k, by omega, he, rfl⟩)
      generalize (el ps k).1 = x at *
      generalize (el ps k).2 = y at *
      cases ok
      · go_wp2_with fail
        refine (sOk _ _ _ _ ps false hl h20 (unhide HA) OK).mono ?_
        rintro e w2 ⟨rfl, nq, rfl⟩
        go_wp2
        go_ret
        exact ⟨0, .inr ⟨.inl OK.no, rfl⟩, rfl, drewN_more (unhide HQ) _⟩
      · go_wp2_with fail
        refine (sOk _ _ _ _ ps true hl h20 (unhide HA) OK).mono ?_
        rintro e w2 ⟨rfl, nq, rfl⟩
        by_cases eq : x = no
        · have Y := hide ((unhide YES) (by trivial) eq)
          clear YES GO
          subst eq
          go_wp2
          go_ret
          exact ⟨y, unhide Y, rfl, drewN_more (unhide HQ) _⟩
        · have eqb : (x == no) = false := by simpa using eq
          have G := hide ((unhide GO) eq)
          clear YES GO
          go_wp2
          go_roundw
          case rel => exact ⟨k + 1, by omega, by go_num, unhide HA, hide (drewN_more (unhide HQ) _), G⟩
          case measure => simp [intOf]; omega
    · obtain rfl : k = n := by omega
      have K0 := hide (show IsKind 8 2 ps no 0 from .inr ⟨.inr (fun i hi => (unhide HG) i (by omega)), rfl⟩)
      clear h
      go_wp2
      go_ret
      exact ⟨0, unhide K0, rfl, unhide HQ⟩
end Go.Proofs.YteccbaohfmhnfaaGreat.InstrSOk
namespace Go.Proofs.YteccbaohfmhnfaaGreat.IRead9
open Go.ChangeShapes Go.WideShapes Go.ChangeAt Go.RowKit BMem Bks IRead
open Lots (Says says_of NoOk)
set_option maxRecDepth 100000 in
theorem iIssuer (w : World) (x : Bx) (no : Int) (t : Bool) (h : Rd w x) (hr : Chart.Right 20 4 x.b.ac) (ht : Says t (kindOf x.b.ac no = 2)) :
    Calls Tryz.prog 73 #[.agg #[.slice (some ⟨x.ga, 0, none⟩) x.b.ac.length x.ca, .slice (some ⟨x.gi, 0, none⟩) x.b.ic.length x.ci, .slice (some ⟨x.gb, 0, none⟩) x.b.bs.length x.cb, .slice (some ⟨x.gl, 0, none⟩) x.b.ls.length x.cl, .slice (some ⟨x.gt, 0, none⟩) x.b.ts.length x.ct, .int .i64 x.b.lot], .int .i64 no] w fun e w' => e = .returned (.bool t) ∧ Below w.heap.size w w' := by
  have H := hide h
  have R := hide hr
  have T := hide ht
  have na := h.na
  have la := h.la
  clear h hr ht
  go_enter Tryz.func73, Tryz.ntmps73
  go_wp2_with fail
  refine (AccountIKind.iKind _ x.ga _ x.ca x.b.ac no rfl na (by simp; omega) ((unhide H).alloc _).ra).mono ?_
  rintro e w1 ⟨r, hk, rfl, b1⟩
  have hd : (r == 2) = t := beq_of (by rw [kind_is (unhide R) hk]; exact unhide T)
  have B1 := hide (((Below.refl w.heap.size w).alloc (Nat.le_refl _) _).trans (b1.mono (by simp)))
  clear b1 hk
  go_wp2
  go_ret
  exact ⟨rfl, unhide B1⟩
end Go.Proofs.YteccbaohfmhnfaaGreat.IRead9
namespace Go.Proofs.YteccbaohfmhnfaaGreat.IIndex8
open Go.ChangeShapes Go.WideShapes Go.ChangeAt Go.RowKit BMem Bks IRead
open Lots (Says says_of NoOk)
open Tup8 (T8 el8 At8 Holds8)
/-- Where the first one stands for which p says yes, or -1. -/
def FirstAt8 (xs : List T8) (p : T8 → Bool) (r : Int) : Prop := (r = -1 ∧ ∀ x ∈ xs, p x = false) ∨ (0 ≤ r ∧ ∃ x ∈ xs, p x = true)
set_option maxRecDepth 100000 in
set_option maxHeartbeats 1000000 in
theorem iIndexF8 (w : World) (g n cap K : Nat) (caps : Array Value) (xs : List T8) (p : T8 → Bool) (hl : xs.length = n) (h20 : n ≤ 1048576) (hg : g < w.heap.size) (h : At8 w g xs)
    (hK : ∀ (args : Array Value) (u : World), (callFunc K args).run Tryz.prog u = .ok (.enter K args) u) (hf : ∀ (u : World) (y : T8), Below w.heap.size w u → Calls Tryz.prog K (#[.agg #[.int .i64 y.1, .int .i64 y.2.1, .int .i64 y.2.2.1, .int .i64 y.2.2.2.1, .int .i64 y.2.2.2.2.1, .int .i64 y.2.2.2.2.2.1, .int .i64 y.2.2.2.2.2.2.1, .int .i64 y.2.2.2.2.2.2.2]] ++ caps) u fun e u' => e = .returned (.bool (p y)) ∧ Below u.heap.size u u') :
    Calls Tryz.prog 142 #[.slice (some ⟨g, 0, none⟩) n cap, .func (.func K) #[] caps] w fun e w' => ∃ r, FirstAt8 xs p r ∧ e = .returned (.int .i64 r) ∧ Below w.heap.size w w' := by
  have H := hide h
  have HF := hide hf
  have HL := hide hl
  clear h hf hl
  go_enter Tryz.func142, Tryz.ntmps142
  go_wp2_with fail
  go_loopw [8] (fun i wr => ∃ (k : Nat), k ≤ n ∧ i = .int .i64 k ∧ (∀ j, j < k → p (el8 xs j) = false) ∧ Below w.heap.size w wr) (fun i _ => n - (intOf i).toNat)
  case atStart => exact ⟨0, by omega, rfl, fun j hj => by omega, Below.refl _ _⟩
  case round =>
    obtain ⟨k, hk, rfl, hn, hb⟩ := hrel
    have HB := hide hb
    have HN := hide hn
    by_cases t : k < n
    · obtain ⟨c0, c1, c2, c3, c4, c5, c6, c7⟩ := ((unhide H).below hb hg) k (by rw [unhide HL]; exact t)
      have hM : el8 xs k ∈ xs := by
        simp [el8, List.getD, unhide HL, t]
      have HM := hide hM
      clear hb hn hM
      generalize hy : el8 xs k = y at *
      have HY := hide hy
      clear hy
      go_wp2_with fail
      refine ((unhide HF) _ y (unhide HB)).mono ?_
      rintro e w1 ⟨rfl, b1⟩
      have B1 := hide (next (unhide HB) b1)
      clear b1 c0 c1 c2 c3 c4 c5 c6 c7
      cases hp : p y
      · go_wp2
        go_roundw
        case rel => exact ⟨k + 1, by omega, by go_num, fun j hj => by
          by_cases e : j = k
          · subst e; rw [unhide HY]; exact hp
          · exact (unhide HN) j (by omega), unhide B1⟩
        case measure => simp [intOf]; omega
      · go_wp2
        go_ret
        exact ⟨k, .inr ⟨by omega, y, unhide HM, hp⟩, rfl, unhide B1⟩
    · clear hb hn
      have hkn : k = n := by omega
      have E0 := hide (show ∀ x ∈ xs, p x = false from fun x hx => by
        obtain ⟨j, hj, rfl⟩ := List.getElem_of_mem hx
        have := (unhide HN) j (by rw [unhide HL] at hj; omega)
        simpa [el8, List.getD, hj] using this)
      clear hkn
      go_wp2
      go_ret
      exact ⟨-1, .inl ⟨rfl, unhide E0⟩, rfl, unhide HB⟩
set_option maxRecDepth 100000 in
theorem iContainsF8 (w : World) (g n cap K : Nat) (caps : Array Value) (xs : List T8) (p : T8 → Bool) (b : Bool) (hl : xs.length = n) (h20 : n ≤ 1048576) (hg : g < w.heap.size) (h : At8 w g xs)
    (hK : ∀ (args : Array Value) (u : World), (callFunc K args).run Tryz.prog u = .ok (.enter K args) u) (hf : ∀ (u : World) (y : T8), Below w.heap.size w u → Calls Tryz.prog K (#[.agg #[.int .i64 y.1, .int .i64 y.2.1, .int .i64 y.2.2.1, .int .i64 y.2.2.2.1, .int .i64 y.2.2.2.2.1, .int .i64 y.2.2.2.2.2.1, .int .i64 y.2.2.2.2.2.2.1, .int .i64 y.2.2.2.2.2.2.2]] ++ caps) u fun e u' => e = .returned (.bool (p y)) ∧ Below u.heap.size u u') (hb : Says b (∃ x ∈ xs, p x = true)) :
    Calls Tryz.prog 119 #[.slice (some ⟨g, 0, none⟩) n cap, .func (.func K) #[] caps] w fun e w' => e = .returned (.bool b) ∧ Below w.heap.size w w' := by
  have H := hide h
  have HF := hide hf
  have HL := hide hl
  have T := hide hb
  clear h hf hl hb
  go_enter Tryz.func119, Tryz.ntmps119
  go_wp2_with fail
  refine (iIndexF8 _ g n cap K caps xs p (unhide HL) h20 hg (unhide H) hK (unhide HF)).mono ?_
  rintro e w1 ⟨r, hr, rfl, b1⟩
  have B1 := hide b1
  have hd : decide (0 ≤ r) = b := by
    rcases hr with ⟨rfl, hr⟩ | ⟨h0, hr⟩
    · rw [(unhide T).not (fun ⟨x, hx, e⟩ => by rw [hr x hx] at e; cases e)]; rfl
    · rw [(unhide T).of hr]; exact decide_eq_true h0
  clear b1 hr
  go_wp2
  go_ret
  exact ⟨rfl, unhide B1⟩
end Go.Proofs.YteccbaohfmhnfaaGreat.IIndex8
namespace Go.Proofs.YteccbaohfmhnfaaGreat.ITradesFit
open Go.ChangeShapes Go.WideShapes Go.ChangeAt Go.RowKit BMem Bks IRead IHave ITrade ILists IBalsFit IIndex8
open Lots (Says says_of NoOk)
open Tup8 (T8 el8 At8 Holds8)
set_option maxRecDepth 100000 in
set_option maxHeartbeats 4000000 in
theorem iTradeFits (w : World) (x : Bx) (y0 y1 y2 y3 y4 y5 y6 y7 : Int) (b : Bool) (h : Rd w x) (ha : Chart.Right 20 4 x.b.ac) (hi : Chart.Right 8 2 x.b.ic) (hb : Says b (TradeFit x.b (y0, y1, y2, y3, y4, y5, y6, y7))) :
    Calls Tryz.prog 121 #[.agg #[.slice (some ⟨x.ga, 0, none⟩) x.b.ac.length x.ca, .slice (some ⟨x.gi, 0, none⟩) x.b.ic.length x.ci, .slice (some ⟨x.gb, 0, none⟩) x.b.bs.length x.cb, .slice (some ⟨x.gl, 0, none⟩) x.b.ls.length x.cl, .slice (some ⟨x.gt, 0, none⟩) x.b.ts.length x.ct, .int .i64 x.b.lot], .agg #[.int .i64 y0, .int .i64 y1, .int .i64 y2, .int .i64 y3, .int .i64 y4, .int .i64 y5, .int .i64 y6, .int .i64 y7]] w fun e w' => e = .returned (.bool b) ∧ Below w.heap.size w w' := by
  have T := hide hb
  have LA := hide ha
  have LI := hide hi
  have FIT := hide (show TradeFit x.b (y0, y1, y2, y3, y4, y5, y6, y7) ↔ kindOf x.b.ac y1 = 1 ∧ kindOf x.b.ac y2 = 1 ∧ kindOf x.b.ic y3 = 2 ∧ kindOf x.b.ic y5 = 1 from Iff.rfl)
  have S1 := hide ((St.start h 36).step (one_more (w.alloc (.cells #[.slice (some ⟨x.ga, 0, none⟩) x.b.ac.length x.ca, .slice (some ⟨x.gi, 0, none⟩) x.b.ic.length x.ci, .slice (some ⟨x.gb, 0, none⟩) x.b.bs.length x.cb, .slice (some ⟨x.gl, 0, none⟩) x.b.ls.length x.cl, .slice (some ⟨x.gt, 0, none⟩) x.b.ts.length x.ct, .int .i64 x.b.lot] 36)) (.cells #[.int .i64 y0, .int .i64 y1, .int .i64 y2, .int .i64 y3, .int .i64 y4, .int .i64 y5, .int .i64 y6, .int .i64 y7] 84)))
  clear hb ha hi h
  obtain ⟨b1, h1⟩ := says_of (kindOf x.b.ac y1 = 1)
  obtain ⟨b2, h2⟩ := says_of (kindOf x.b.ac y2 = 1)
  obtain ⟨b3, h3⟩ := says_of (kindOf x.b.ic y3 = 2)
  obtain ⟨b4, h4⟩ := says_of (kindOf x.b.ic y5 = 1)
  have H1 := hide h1
  have H2 := hide h2
  have H3 := hide h3
  have H4 := hide h4
  clear h1 h2 h3 h4
  go_enter Tryz.func121, Tryz.ntmps121
  go_wp2_with fail
  refine (iHolder _ x y1 b1 (unhide S1).r (unhide LA) (unhide H1)).mono ?_
  rintro e w1 ⟨rfl, bb⟩
  have S2 := hide ((unhide S1).step bb)
  have f2 : w1.cell? ⟨w.heap.size + 1, 2, none⟩ = some (.int .i64 y2) := (bb.cell (p := ⟨w.heap.size + 1, 2, none⟩) (by simp)).trans (by simp)
  have f3 : w1.cell? ⟨w.heap.size + 1, 3, none⟩ = some (.int .i64 y3) := (bb.cell (p := ⟨w.heap.size + 1, 3, none⟩) (by simp)).trans (by simp)
  have f5 : w1.cell? ⟨w.heap.size + 1, 5, none⟩ = some (.int .i64 y5) := (bb.cell (p := ⟨w.heap.size + 1, 5, none⟩) (by simp)).trans (by simp)
  have z1 : w.heap.size + 1 < w1.heap.size := by have := bb.size; simp at this; omega
  clear bb
  cases b1
  · have F := hide ((unhide T).not (fun hh => (unhide H1).no ((unhide FIT).1 hh).1))
    clear FIT T
    go_wp2
    go_ret
    exact ⟨by rw [unhide F]; rfl, (unhide S2).b⟩
  obtain ⟨c0, c1, c2, c3, c4, c5⟩ := (unhide S2).c
  go_wp2_with fail
  refine (iHolder _ x y2 b2 (unhide S2).r (unhide LA) (unhide H2)).mono ?_
  rintro e w2 ⟨rfl, bb⟩
  have S3 := hide ((unhide S2).step bb)
  replace f2 : w2.cell? ⟨w.heap.size + 1, 2, none⟩ = some (.int .i64 y2) := (bb.cell (p := ⟨w.heap.size + 1, 2, none⟩) z1).trans f2
  replace f3 : w2.cell? ⟨w.heap.size + 1, 3, none⟩ = some (.int .i64 y3) := (bb.cell (p := ⟨w.heap.size + 1, 3, none⟩) z1).trans f3
  replace f5 : w2.cell? ⟨w.heap.size + 1, 5, none⟩ = some (.int .i64 y5) := (bb.cell (p := ⟨w.heap.size + 1, 5, none⟩) z1).trans f5
  have z2 : w.heap.size + 1 < w2.heap.size := Nat.lt_of_lt_of_le z1 bb.size
  clear bb c0 c1 c2 c3 c4 c5
  cases b2
  · have F := hide ((unhide T).not (fun hh => (unhide H2).no ((unhide FIT).1 hh).2.1))
    clear FIT T
    go_wp2
    go_ret
    exact ⟨by rw [unhide F]; rfl, (unhide S3).b⟩
  obtain ⟨c0, c1, c2, c3, c4, c5⟩ := (unhide S3).c
  go_wp2_with fail
  refine (iPaper _ x y3 b3 (unhide S3).r (unhide LI) (unhide H3)).mono ?_
  rintro e w3 ⟨rfl, bb⟩
  have S4 := hide ((unhide S3).step bb)
  replace f5 : w3.cell? ⟨w.heap.size + 1, 5, none⟩ = some (.int .i64 y5) := (bb.cell (p := ⟨w.heap.size + 1, 5, none⟩) z2).trans f5
  clear bb c0 c1 c2 c3 c4 c5 f2 f3
  cases b3
  · have F := hide ((unhide T).not (fun hh => (unhide H3).no ((unhide FIT).1 hh).2.2.1))
    clear FIT T
    go_wp2
    go_ret
    exact ⟨by rw [unhide F]; rfl, (unhide S4).b⟩
  obtain ⟨c0, c1, c2, c3, c4, c5⟩ := (unhide S4).c
  go_wp2_with fail
  refine (iCash _ x y5 b4 (unhide S4).r (unhide LI) (unhide H4)).mono ?_
  rintro e w4 ⟨rfl, bb⟩
  have S5 := hide ((unhide S4).step bb)
  clear bb c0 c1 c2 c3 c4 c5
  have G := hide (show b = b4 from by
    cases b4
    · exact (unhide T).not (fun hh => (unhide H4).no ((unhide FIT).1 hh).2.2.2)
    · exact (unhide T).of ((unhide FIT).2 ⟨(unhide H1).yes, (unhide H2).yes, (unhide H3).yes, (unhide H4).yes⟩))
  clear FIT T
  go_wp2
  go_ret
  exact ⟨by rw [unhide G]; rfl, (unhide S5).b⟩
/-- A trade that does not fit. -/
noncomputable def unfitB (b : Bk) (t : T8) : Bool := @decide (¬ TradeFit b t) (Classical.propDecidable _)
theorem unfit_says (b : Bk) (t : T8) : Says (!(unfitB b t)) (TradeFit b t) := by
  unfold unfitB
  by_cases h : TradeFit b t
  · rw [@decide_eq_false _ (Classical.propDecidable _) (fun n : ¬ TradeFit b t => n h)]
    exact ⟨fun _ => h, fun _ => rfl⟩
  · rw [@decide_eq_true _ (Classical.propDecidable _) h]
    exact ⟨fun e => Bool.noConfusion e, fun e => absurd e h⟩
set_option maxRecDepth 100000 in
theorem iUnfit (w : World) (x : Bx) (g : Nat) (y : T8) (h : Rd w x) (hgs : g < w.heap.size) (hc : Cl w g x) (ha : Chart.Right 20 4 x.b.ac) (hi : Chart.Right 8 2 x.b.ic) :
    Calls Tryz.prog 120 (#[.agg #[.int .i64 y.1, .int .i64 y.2.1, .int .i64 y.2.2.1, .int .i64 y.2.2.2.1, .int .i64 y.2.2.2.2.1, .int .i64 y.2.2.2.2.2.1, .int .i64 y.2.2.2.2.2.2.1, .int .i64 y.2.2.2.2.2.2.2]] ++ #[.pointer (some ⟨g, 0, none⟩)]) w fun e w' => e = .returned (.bool (unfitB x.b y)) ∧ Below w.heap.size w w' := by
  obtain ⟨y0, y1, y2, y3, y4, y5, y6, y7⟩ := y
  show Calls Tryz.prog 120 #[.agg #[.int .i64 y0, .int .i64 y1, .int .i64 y2, .int .i64 y3, .int .i64 y4, .int .i64 y5, .int .i64 y6, .int .i64 y7], .pointer (some ⟨g, 0, none⟩)] w _
  have T := hide (unfit_says x.b (y0, y1, y2, y3, y4, y5, y6, y7))
  generalize unfitB x.b (y0, y1, y2, y3, y4, y5, y6, y7) = b at *
  have B0 := hide (one_more w (.cells #[.int .i64 y0, .int .i64 y1, .int .i64 y2, .int .i64 y3, .int .i64 y4, .int .i64 y5, .int .i64 y6, .int .i64 y7] 84))
  have H := hide (h.below (unhide B0))
  have LA := hide ha
  have LI := hide hi
  obtain ⟨c0, c1, c2, c3, c4, c5⟩ := hc.below (unhide B0) hgs
  clear h ha hi
  go_enter Tryz.func120, Tryz.ntmps120
  go_wp2_with fail
  refine (iTradeFits _ x y0 y1 y2 y3 y4 y5 y6 y7 (!b) (unhide H) (unhide LA) (unhide LI) (unhide T)).mono ?_
  rintro e w1 ⟨rfl, b1⟩
  have B1 := hide (next (unhide B0) b1)
  clear b1
  go_wp2
  go_ret
  exact ⟨by simp, unhide B1⟩
set_option maxRecDepth 100000 in
theorem iTradesFit (w : World) (x : Bx) (b : Bool) (h : Rd w x) (hl : Lists x.b) (hb : Says b (TradesFit x.b)) :
    Calls Tryz.prog 102 #[.agg #[.slice (some ⟨x.ga, 0, none⟩) x.b.ac.length x.ca, .slice (some ⟨x.gi, 0, none⟩) x.b.ic.length x.ci, .slice (some ⟨x.gb, 0, none⟩) x.b.bs.length x.cb, .slice (some ⟨x.gl, 0, none⟩) x.b.ls.length x.cl, .slice (some ⟨x.gt, 0, none⟩) x.b.ts.length x.ct, .int .i64 x.b.lot]] w fun e w' => e = .returned (.bool b) ∧ Below w.heap.size w w' := by
  have T := hide (show Says (!b) (∃ t ∈ x.b.ts, unfitB x.b t = true) from by
    cases b
    · refine ⟨fun _ => ?_, fun _ => rfl⟩
      have := hb.no
      refine Classical.byContradiction fun hn => this fun k hk => ?_
      refine (unfit_says x.b (el8 x.b.ts k)).1 ?_
      cases e : unfitB x.b (el8 x.b.ts k)
      · rfl
      · exact absurd ⟨_, Tup8.getD_mem hk, e⟩ hn
    · refine ⟨fun e => Bool.noConfusion e, fun ⟨t, ht, e⟩ => ?_⟩
      obtain ⟨k, hk, rfl⟩ := Tup8.mem_getD ht
      have := (unfit_says x.b (el8 x.b.ts k)).2 (hb.yes k hk)
      rw [e] at this
      cases this)
  have LA := hide hl.1
  have LI := hide hl.2.1
  have S0 := hide (St.start h 36)
  have nt := h.nt
  have lt := h.lt
  clear hb hl h
  go_enter Tryz.func102, Tryz.ntmps102
  go_wp2_with fail
  refine (iContainsF8 _ x.gt _ x.ct 120 #[.pointer (some ⟨w.heap.size, 0, none⟩)] x.b.ts (unfitB x.b) (!b) rfl nt (by simp; omega) (unhide S0).r.rt (fun _ _ => enters Tryz.func120 (by kernel_rfl) rfl _ _) (fun u y bu => iUnfit u x w.heap.size y ((unhide S0).r.below bu) (Nat.lt_of_lt_of_le (unhide S0).s bu.size) ((unhide S0).c.below bu (by simp)) (unhide LA) (unhide LI)) (unhide T)).mono ?_
  rintro e w1 ⟨rfl, b1⟩
  have B1 := hide ((unhide S0).step b1).b
  clear b1
  go_wp2
  go_ret
  exact ⟨by simp, unhide B1⟩
end Go.Proofs.YteccbaohfmhnfaaGreat.ITradesFit
