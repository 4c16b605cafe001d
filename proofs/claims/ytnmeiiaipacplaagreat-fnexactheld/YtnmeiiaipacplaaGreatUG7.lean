/- Texts of one proof, one behind the other: IBooksOk, ICmdB, ICmd, IPostB, ICmdW, ICmdF, FxI, ITakeBk, IssueTellI, FxTellI, STell, LawT, SHeld, LawH, HeldP, Pay, SPay, LayI, ISort, IOrder. -/
import Derived.Test.YtnmeiiaipacplaaGreatRows
import Derived.Test.YtnmeiiaipacplaaGreatUG1
import Derived.Test.YtnmeiiaipacplaaGreatUG2
import Derived.Test.YtnmeiiaipacplaaGreatUG3
import Derived.Test.YtnmeiiaipacplaaGreatUG4
import Derived.Test.YtnmeiiaipacplaaGreatUG5
import Derived.Test.YtnmeiiaipacplaaGreatUG6
import Derived.Defers
import Derived.Shelf.SlGeneric
import Derived.Shelf.SlSortCmp.Whole1
import Derived.Ground.SlsfProg
import Derived.WalkSmall
set_option linter.unusedVariables false
set_option linter.unusedSimpArgs false
namespace Go.Proofs.YtnmeiiaipacplaaGreat.IBooksOk
open Go.ChangeShapes Go.WideShapes Go.ChangeAt Go.RowKit BMem Bks IRead IHave ITrade ILists IBalsFit ILotsFit ITradesFit
open Lots (Says says_of NoOk)
set_option maxRecDepth 100000 in
set_option maxHeartbeats 2000000 in
theorem iBooksOk (w : World) (x : Bx) (b : Bool) (h : Rd w x) (hb : Says b (Ok x.b)) :
    Calls Tryz.prog 68 #[.agg #[.slice (some ⟨x.ga, 0, none⟩) x.b.ac.length x.ca, .slice (some ⟨x.gi, 0, none⟩) x.b.ic.length x.ci, .slice (some ⟨x.gb, 0, none⟩) x.b.bs.length x.cb, .slice (some ⟨x.gl, 0, none⟩) x.b.ls.length x.cl, .slice (some ⟨x.gt, 0, none⟩) x.b.ts.length x.ct, .int .i64 x.b.lot]] w fun e w' => e = .returned (.bool b) ∧ Below w.heap.size w w' := by
  have T := hide hb
  have S0 := hide (St.start h 36)
  obtain ⟨b0, h0⟩ := says_of (Lists x.b)
  obtain ⟨b1, h1⟩ := says_of (BalsFit x.b)
  obtain ⟨b2, h2⟩ := says_of (LotsFit x.b)
  obtain ⟨b3, h3⟩ := says_of (TradesFit x.b)
  have H0 := hide h0
  have H1 := hide h1
  have H2 := hide h2
  have H3 := hide h3
  clear hb h h0 h1 h2 h3
  go_enter Tryz.func68, Tryz.ntmps68
  go_wp2_with fail
  refine (iLists _ x b0 (unhide S0).r (unhide H0)).mono ?_
  rintro e w1 ⟨rfl, bb⟩
  have S1 := hide ((unhide S0).step bb)
  clear bb
  obtain ⟨c0, c1, c2, c3, c4, c5⟩ := (unhide S1).c
  cases b0
  · have F := hide ((unhide T).not (fun hh => (unhide H0).no hh.1))
    clear T
    go_wp2
    go_ret
    exact ⟨by rw [unhide F]; rfl, (unhide S1).b⟩
  go_wp2_with fail
  refine (iBalsFit _ x b1 (unhide S1).r (unhide H0).yes (unhide H1)).mono ?_
  rintro e w2 ⟨rfl, bb⟩
  have S2 := hide ((unhide S1).step bb)
  clear bb
  clear c0 c1 c2 c3 c4 c5
  obtain ⟨c0, c1, c2, c3, c4, c5⟩ := (unhide S2).c
  cases b1
  · have F := hide ((unhide T).not (fun hh => (unhide H1).no hh.2.1))
    clear T
    go_wp2
    go_ret
    exact ⟨by rw [unhide F]; rfl, (unhide S2).b⟩
  go_wp2_with fail
  refine (iLotsFit _ x b2 (unhide S2).r (unhide H0).yes (unhide H2)).mono ?_
  rintro e w3 ⟨rfl, bb⟩
  have S3 := hide ((unhide S2).step bb)
  clear bb
  clear c0 c1 c2 c3 c4 c5
  obtain ⟨c0, c1, c2, c3, c4, c5⟩ := (unhide S3).c
  cases b2
  · have F := hide ((unhide T).not (fun hh => (unhide H2).no hh.2.2.1))
    clear T
    go_wp2
    go_ret
    exact ⟨by rw [unhide F]; rfl, (unhide S3).b⟩
  go_wp2_with fail
  refine (iTradesFit _ x b3 (unhide S3).r (unhide H0).yes (unhide H3)).mono ?_
  rintro e w4 ⟨rfl, bb⟩
  have S4 := hide ((unhide S3).step bb)
  clear bb
  clear c0 c1 c2 c3 c4 c5
  obtain ⟨c0, c1, c2, c3, c4, c5⟩ := (unhide S4).c
  cases b3
  · have F := hide ((unhide T).not (fun hh => (unhide H3).no hh.2.2.2))
    clear T
    go_wp2
    go_ret
    exact ⟨by rw [unhide F]; rfl, (unhide S4).b⟩
  have F := hide ((unhide T).of ⟨(unhide H0).yes, (unhide H1).yes, (unhide H2).yes, (unhide H3).yes⟩)
  clear T
  go_wp2
  go_ret
  exact ⟨by rw [unhide F]; rfl, (unhide S4).b⟩
end Go.Proofs.YtnmeiiaipacplaaGreat.IBooksOk
namespace Go.Proofs.YtnmeiiaipacplaaGreat.ICmdB
open Go.ChangeShapes Go.WideShapes Go.ChangeAt Go.RowKit BMem Bks ILists BHelp Ans ICopied
open IBalsFit (one_more)
open Lots (Says says_of NoOk)
def AnyBox (w : World) (base g : Nat) : Prop := ∃ (a0 a1 a2 a3 a4 : Option Addr) (n0 n1 n2 n3 n4 k0 k1 k2 k3 k4 : Nat) (l : Int), Box w base g (.slice a0 n0 k0) (.slice a1 n1 k1) (.slice a2 n2 k2) (.slice a3 n3 k3) (.slice a4 n4 k4) (.int .i64 l)
def Var (w : World) (base g : Nat) (x : Bx) : Prop := Box w base g (.slice (some ⟨x.ga, 0, none⟩) x.b.ac.length x.ca) (.slice (some ⟨x.gi, 0, none⟩) x.b.ic.length x.ci) (.slice (some ⟨x.gb, 0, none⟩) x.b.bs.length x.cb) (.slice (some ⟨x.gl, 0, none⟩) x.b.ls.length x.cl) (.slice (some ⟨x.gt, 0, none⟩) x.b.ts.length x.ct) (.int .i64 x.b.lot)
theorem Var.any {w : World} {base g : Nat} {x : Bx} (h : Var w base g x) : AnyBox w base g := ⟨_, _, _, _, _, _, _, _, _, _, _, _, _, _, _, _, h⟩
def Does (P : Bk → Int → Int → Prop) (base g : Nat) (u : World) (e : Ending) (u' : World) : Prop :=
  ∃ (b' : Bk) (t c : Int), P b' t c ∧ e = .returned (.tuple #[.int .i64 t, .int .i64 c]) ∧ ((c = 0 ∧ ∃ z, z.b = b' ∧ Var u' base g z ∧ Ow u' (base + 4) z) ∨ (c ≠ 0 ∧ AnyBox u' base g)) ∧ u.grownBy u' (some g)
def AnsC (told : Prop) (b : Bk) (P : Bk → Int → Int → Prop) (w : World) (e : Ending) (w' : World) : Prop :=
  (¬ told ∧ e = .returned (.tuple #[.agg #[.slice none 0 0, .slice none 0 0, .slice none 0 0, .slice none 0 0, .slice none 0 0, .int .i64 0], .int .i64 0, .int .i64 1]) ∧ Below w.heap.size w w') ∨
  (told ∧ ∃ (b' : Bk) (t c : Int) (z : Bx), P b' t c ∧ ((c = 0 ∧ z.b = b' ∧ e = .returned (.tuple #[.agg #[.slice (some ⟨z.ga, 0, none⟩) z.b.ac.length z.ca, .slice (some ⟨z.gi, 0, none⟩) z.b.ic.length z.ci, .slice (some ⟨z.gb, 0, none⟩) z.b.bs.length z.cb, .slice (some ⟨z.gl, 0, none⟩) z.b.ls.length z.cl, .slice (some ⟨z.gt, 0, none⟩) z.b.ts.length z.ct, .int .i64 z.b.lot], .int .i64 t, .int .i64 c])) ∨ (c ≠ 0 ∧ z.b = b ∧ e = .returned (.tuple #[.agg #[.slice (some ⟨z.ga, 0, none⟩) z.b.ac.length z.ca, .slice (some ⟨z.gi, 0, none⟩) z.b.ic.length z.ci, .slice (some ⟨z.gb, 0, none⟩) z.b.bs.length z.cb, .slice (some ⟨z.gl, 0, none⟩) z.b.ls.length z.cl, .slice (some ⟨z.gt, 0, none⟩) z.b.ts.length z.ct, .int .i64 z.b.lot], .int .i64 0, .int .i64 c]))) ∧ Ow w' w.heap.size z ∧ Below w.heap.size w w')
def Kept (B : Nat) (w w' : World) : Prop := w.heap.size ≤ w'.heap.size ∧ ∀ j, B ≤ j → j < w.heap.size → w'.heap[j]? = w.heap[j]?
theorem Kept.of {B : Nat} {w w' : World} (h : Below w.heap.size w w') : Kept B w w' := ⟨h.size, fun j _ hj => h.block j hj⟩
theorem Kept.drew {B : Nat} {w w' : World} (h : Kept B w w') : Kept B w w'.drew := ⟨h.1, h.2⟩
theorem Kept.trans {B : Nat} {u v w : World} (h : Kept B u v) (k : Kept B v w) : Kept B u w := ⟨Nat.le_trans h.1 k.1, fun j hj hl => (k.2 j hj (Nat.lt_of_lt_of_le hl h.1)).trans (h.2 j hj hl)⟩
theorem Kept.set {B : Nat} {w w' : World} (h : Kept B w w') {g : Nat} (hg : g < B) (j : Nat) (u : Value) : Kept B w (w'.setCell ⟨g, j, none⟩ u) :=
  ⟨by simpa [World.setCell] using h.1, fun k hk hl => (Below.heap_setCell _ _ _ _ (by show k ≠ g; omega)).trans (h.2 k hk hl)⟩
theorem Kept.six {B : Nat} {w w' : World} (h : Kept B w w') {g : Nat} (hg : g < B) (u0 u1 u2 u3 u4 u5 : Value) : Kept B w ((((((w'.setCell ⟨g, 0, none⟩ u0).setCell ⟨g, 1, none⟩ u1).setCell ⟨g, 2, none⟩ u2).setCell ⟨g, 3, none⟩ u3).setCell ⟨g, 4, none⟩ u4).setCell ⟨g, 5, none⟩ u5) :=
  (((((h.set hg 0 u0).set hg 1 u1).set hg 2 u2).set hg 3 u3).set hg 4 u4).set hg 5 u5
set_option maxRecDepth 100000 in
theorem back_no (p8 p3 p6 p7 : Addr) (u : FrameMode) (w : World) (hc : w.cell? p8 = some (.int .i64 0)) :
    CallsD Tryz.prog 100 #[.pointer (some p8), .pointer (some p3), .pointer (some p6), .pointer (some p7)] u w fun e u' w' => u' = u ∧ (e = .returned (.tuple #[]) ∧ w' = w) := by
  go_enter_d Tryz.func100, Tryz.ntmps100
  go_wp2
  go_end0
  exact ⟨rfl, rfl⟩
set_option maxRecDepth 100000 in
set_option maxHeartbeats 2000000 in
theorem back_yes (w0 : World) (x : Bx) (c t : Int) (u : FrameMode) (w : World) (hne : c ≠ 0) (h : Rd w x) (hb : Cl w w0.heap.size x) (hl : w0.heap.size + 1 + 1 + 1 < w.heap.size) (hr : AnyBox w w0.heap.size (w0.heap.size + 1)) (hc : w.cell? ⟨w0.heap.size + 1 + 1 + 1, 0, none⟩ = some (.int .i64 c)) (ht : w.cell? ⟨w0.heap.size + 1 + 1, 0, none⟩ = some (.int .i64 t)) (hf : w.frozen? ⟨w0.heap.size + 1 + 1, 0, none⟩ = false) :
    CallsD Tryz.prog 100 #[.pointer (some ⟨w0.heap.size + 1 + 1 + 1, 0, none⟩), .pointer (some ⟨w0.heap.size, 0, none⟩), .pointer (some ⟨w0.heap.size + 1, 0, none⟩), .pointer (some ⟨w0.heap.size + 1 + 1, 0, none⟩)] u w fun e u' w' => u' = u ∧ (e = .returned (.tuple #[]) ∧ ∃ z : Bx, z.b = x.b ∧ Var w' w0.heap.size (w0.heap.size + 1) z ∧ Ow w' (w0.heap.size + 4) z ∧ w'.cell? ⟨w0.heap.size + 1 + 1 + 1, 0, none⟩ = some (.int .i64 c) ∧ w'.cell? ⟨w0.heap.size + 1 + 1, 0, none⟩ = some (.int .i64 0) ∧ Below w0.heap.size w w' ∧ Kept (w0.heap.size + 4) w w') := by
  have hq : (c != 0) = true := by simp [hne]
  have H := hide h
  have R := hide hr
  obtain ⟨c0, c1, c2, c3, c4, c5⟩ := hb
  clear h hr hne
  go_enter_d Tryz.func100, Tryz.ntmps100
  go_wp2_with fail
  refine (iCopied _ x (unhide H)).mono ?_
  rintro e w1 ⟨z, hz, rfl, oz, bb⟩
  have HZ := hide hz
  have OZ := hide oz
  have LZ := hide (ow_lo oz)
  have B1 := hide bb
  have e3 : w1.cell? ⟨w0.heap.size + 1 + 1 + 1, 0, none⟩ = some (.int .i64 c) := (bb.cell (p := ⟨w0.heap.size + 1 + 1 + 1, 0, none⟩) hl).trans hc
  have e2 : w1.cell? ⟨w0.heap.size + 1 + 1, 0, none⟩ = some (.int .i64 t) := (bb.cell (p := ⟨w0.heap.size + 1 + 1, 0, none⟩) (by simp; omega)).trans ht
  have e2f : w1.frozen? ⟨w0.heap.size + 1 + 1, 0, none⟩ = false := (bb.frozen (p := ⟨w0.heap.size + 1 + 1, 0, none⟩) (by simp; omega)).trans hf
  obtain ⟨a0, a1, a2, a3, a4, n0, n1, n2, n3, n4, k0, k1, k2, k3, k4, l, bx⟩ := unhide R
  have bx1 := bx.below bb (by omega)
  have BX := hide bx1
  have r0 := bx1.c0
  have r1 := bx1.c1
  have r2 := bx1.c2
  have r3 := bx1.c3
  have r4 := bx1.c4
  have r5 := bx1.c5
  have f0 := bx1.free 0
  have f1 := bx1.free 1
  have f2 := bx1.free 2
  have f3 := bx1.free 3
  have f4 := bx1.free 4
  have f5 := bx1.free 5
  have hs := bb.size
  clear bb oz hz bx bx1 c0 c1 c2 c3 c4 c5 hc ht hf R
  go_wp2
  go_end0
  refine ⟨rfl, z, unhide HZ, ?_, ?_, ?_, ?_, ?_, ?_⟩
  · exact row_set (box_six (unhide BX) _ _ _ _ _ _).1 (by omega) 0 _
  · exact (ow_set (ow_six (unhide OZ) (off_lo (unhide LZ) (by omega)) _ _ _ _ _ _) (off_lo (unhide LZ) (by omega)) 0 _).rebase (by omega)
  · simp [go_sem, e3]
  · simp [go_sem, e2]
  · exact (six ((unhide B1).mono (by omega)) (by omega) _ _ _ _ _ _).setCell (p := ⟨w0.heap.size + 1 + 1, 0, none⟩) (by simp; omega) _
  · exact ((Kept.of (unhide B1)).six (by omega) _ _ _ _ _ _).set (by omega) 0 _
theorem lo_mono {x : Bx} {N M : Nat} (h : Lo x N) (hm : M ≤ N) : Lo x M := by
  unfold Lo at *
  omega
structure CW (w W : World) (x : Bx) (t c : Int) : Prop where
  r : Rd W x
  cl : Cl W w.heap.size x
  b : Below w.heap.size w W
  s : w.heap.size + 1 + 1 + 1 < W.heap.size
  t : W.cell? ⟨w.heap.size + 1 + 1, 0, none⟩ = some (.int .i64 t)
  tf : W.frozen? ⟨w.heap.size + 1 + 1, 0, none⟩ = false
  c : W.cell? ⟨w.heap.size + 1 + 1 + 1, 0, none⟩ = some (.int .i64 c)
  cf : W.frozen? ⟨w.heap.size + 1 + 1 + 1, 0, none⟩ = false
theorem free_new (w : World) (v : Value) (e : TypeId) {g : Nat} (hg : g = w.heap.size) : (w.alloc (.cells #[v] e)).frozen? ⟨g, 0, none⟩ = false := by
  subst hg
  exact World.ownsRow.frozenAt (base := 0) (e := e) (size := 1) (n := 1) (cap := 1) (xs := [v]) ⟨rfl, .inr ⟨w.heap.size, 1, #[v], rfl, Nat.zero_le _, heap_alloc_new w _, Nat.le_refl _, by unfold maxLen; omega, rfl, rfl⟩⟩ 0
theorem cell_new (w : World) (v : Value) (e : TypeId) {g : Nat} (hg : g = w.heap.size) : (w.alloc (.cells #[v] e)).cell? ⟨g, 0, none⟩ = some v := by
  subst hg
  simp
theorem CW.step {w W W' : World} {x : Bx} {t c : Int} (h : CW w W x t c) (k : Below W.heap.size W W') : CW w W' x t c := by
  have s := h.s
  exact ⟨h.r.below k, h.cl.below k (by omega), h.b.trans (k.mono h.b.size), Nat.lt_of_lt_of_le h.s k.size, (k.cell (p := ⟨w.heap.size + 1 + 1, 0, none⟩) (by simp; omega)).trans h.t, (k.frozen (p := ⟨w.heap.size + 1 + 1, 0, none⟩) (by simp; omega)).trans h.tf, (k.cell (p := ⟨w.heap.size + 1 + 1 + 1, 0, none⟩) h.s).trans h.c, (k.frozen (p := ⟨w.heap.size + 1 + 1 + 1, 0, none⟩) h.s).trans h.cf⟩
theorem CW.grown {w W W' : World} {x : Bx} {t c : Int} (H : Rd w x) (h : CW w W x t c) (k : W.grownBy W' (some (w.heap.size + 1))) : CW w W' x t c := by
  have s := h.s
  have b : Below w.heap.size w W' := h.b.grown k h.b.size (fun j e => by injection e; omega)
  have n0 : some w.heap.size ≠ some (w.heap.size + 1) := fun e => by injection e; omega
  have n2 : some (w.heap.size + 1 + 1) ≠ some (w.heap.size + 1) := fun e => by injection e; omega
  have n3 : some (w.heap.size + 1 + 1 + 1) ≠ some (w.heap.size + 1) := fun e => by injection e; omega
  exact ⟨H.below b, ⟨k.cell h.cl.c0 n0, k.cell h.cl.c1 n0, k.cell h.cl.c2 n0, k.cell h.cl.c3 n0, k.cell h.cl.c4 n0, k.cell h.cl.c5 n0⟩, b, Nat.lt_of_lt_of_le h.s k.size, k.cell h.t n2, (World.frozen?_of_block (a := ⟨w.heap.size + 1 + 1, 0, none⟩) (k.block (w.heap.size + 1 + 1) (by omega) n2)).trans h.tf, k.cell h.c n3, (World.frozen?_of_block (a := ⟨w.heap.size + 1 + 1 + 1, 0, none⟩) (k.block (w.heap.size + 1 + 1 + 1) (by omega) n3)).trans h.cf⟩
theorem CW.start {w : World} {x : Bx} (h : Rd w x) : CW w ((((w.alloc (.cells #[.slice (some ⟨x.ga, 0, none⟩) x.b.ac.length x.ca, .slice (some ⟨x.gi, 0, none⟩) x.b.ic.length x.ci, .slice (some ⟨x.gb, 0, none⟩) x.b.bs.length x.cb, .slice (some ⟨x.gl, 0, none⟩) x.b.ls.length x.cl, .slice (some ⟨x.gt, 0, none⟩) x.b.ts.length x.ct, .int .i64 x.b.lot] 36)).alloc (.cells #[.slice none 0 0, .slice none 0 0, .slice none 0 0, .slice none 0 0, .slice none 0 0, .int .i64 0] 36)).alloc (.cells #[.int .i64 0] 3)).alloc (.cells #[.int .i64 0] 3)) x 0 0 := by
  have s := SR.start h
  have b : Below ((w.alloc (.cells #[.slice (some ⟨x.ga, 0, none⟩) x.b.ac.length x.ca, .slice (some ⟨x.gi, 0, none⟩) x.b.ic.length x.ci, .slice (some ⟨x.gb, 0, none⟩) x.b.bs.length x.cb, .slice (some ⟨x.gl, 0, none⟩) x.b.ls.length x.cl, .slice (some ⟨x.gt, 0, none⟩) x.b.ts.length x.ct, .int .i64 x.b.lot] 36)).alloc (.cells #[.slice none 0 0, .slice none 0 0, .slice none 0 0, .slice none 0 0, .slice none 0 0, .int .i64 0] 36)).heap.size ((w.alloc (.cells #[.slice (some ⟨x.ga, 0, none⟩) x.b.ac.length x.ca, .slice (some ⟨x.gi, 0, none⟩) x.b.ic.length x.ci, .slice (some ⟨x.gb, 0, none⟩) x.b.bs.length x.cb, .slice (some ⟨x.gl, 0, none⟩) x.b.ls.length x.cl, .slice (some ⟨x.gt, 0, none⟩) x.b.ts.length x.ct, .int .i64 x.b.lot] 36)).alloc (.cells #[.slice none 0 0, .slice none 0 0, .slice none 0 0, .slice none 0 0, .slice none 0 0, .int .i64 0] 36)) ((((w.alloc (.cells #[.slice (some ⟨x.ga, 0, none⟩) x.b.ac.length x.ca, .slice (some ⟨x.gi, 0, none⟩) x.b.ic.length x.ci, .slice (some ⟨x.gb, 0, none⟩) x.b.bs.length x.cb, .slice (some ⟨x.gl, 0, none⟩) x.b.ls.length x.cl, .slice (some ⟨x.gt, 0, none⟩) x.b.ts.length x.ct, .int .i64 x.b.lot] 36)).alloc (.cells #[.slice none 0 0, .slice none 0 0, .slice none 0 0, .slice none 0 0, .slice none 0 0, .int .i64 0] 36)).alloc (.cells #[.int .i64 0] 3)).alloc (.cells #[.int .i64 0] 3)) := ((Below.refl _ _).alloc (Nat.le_refl _) _).alloc (by simp) _
  have s2 := s.step b
  exact ⟨s2.r, s2.c, s2.b, by simp, ((one_more _ _).cell (p := ⟨w.heap.size + 1 + 1, 0, none⟩) (by simp)).trans (cell_new _ _ _ (by simp)), ((one_more _ _).frozen (p := ⟨w.heap.size + 1 + 1, 0, none⟩) (by simp)).trans (free_new _ _ _ (by simp)), cell_new _ _ _ (by simp), free_new _ _ _ (by simp)⟩
theorem var_start (w : World) (x : Bx) : Box ((((w.alloc (.cells #[.slice (some ⟨x.ga, 0, none⟩) x.b.ac.length x.ca, .slice (some ⟨x.gi, 0, none⟩) x.b.ic.length x.ci, .slice (some ⟨x.gb, 0, none⟩) x.b.bs.length x.cb, .slice (some ⟨x.gl, 0, none⟩) x.b.ls.length x.cl, .slice (some ⟨x.gt, 0, none⟩) x.b.ts.length x.ct, .int .i64 x.b.lot] 36)).alloc (.cells #[.slice none 0 0, .slice none 0 0, .slice none 0 0, .slice none 0 0, .slice none 0 0, .int .i64 0] 36)).alloc (.cells #[.int .i64 0] 3)).alloc (.cells #[.int .i64 0] 3)) w.heap.size (w.heap.size + 1) (.slice none 0 0) (.slice none 0 0) (.slice none 0 0) (.slice none 0 0) (.slice none 0 0) (.int .i64 0) :=
  World.ownsRow.alloc (World.ownsRow.alloc (Box.made (w := w.alloc (.cells #[.slice (some ⟨x.ga, 0, none⟩) x.b.ac.length x.ca, .slice (some ⟨x.gi, 0, none⟩) x.b.ic.length x.ci, .slice (some ⟨x.gb, 0, none⟩) x.b.bs.length x.cb, .slice (some ⟨x.gl, 0, none⟩) x.b.ls.length x.cl, .slice (some ⟨x.gt, 0, none⟩) x.b.ts.length x.ct, .int .i64 x.b.lot] 36)) (base := w.heap.size) (g := w.heap.size + 1) _ _ _ _ _ _ (by simp) (by simp)) _) _
theorem cell_off (w : World) {g g' : Nat} (j j' : Nat) (u : Value) (ne : g ≠ g') : (w.setCell ⟨g, j, none⟩ u).cell? ⟨g', j', none⟩ = w.cell? ⟨g', j', none⟩ :=
  World.cell?_setCell_other _ _ _ _ (fun e => ne (congrArg Addr.block e))
theorem CW.told {w W : World} {x : Bx} {t c : Int} (H : Rd w x) (h : CW w W x t c) (t' c' : Int) : CW w ((W.setCell ⟨w.heap.size + 1 + 1, 0, none⟩ (.int .i64 t')).setCell ⟨w.heap.size + 1 + 1 + 1, 0, none⟩ (.int .i64 c')) x t' c' := by
  have b := (h.b.setCell (p := ⟨w.heap.size + 1 + 1, 0, none⟩) (by simp; omega) (.int .i64 t')).setCell (p := ⟨w.heap.size + 1 + 1 + 1, 0, none⟩) (by simp; omega) (.int .i64 c')
  have s := h.s
  refine ⟨H.below b, ⟨?_, ?_, ?_, ?_, ?_, ?_⟩, b, by simpa using s, ?_, ?_, ?_, ?_⟩
  · rw [cell_off _ _ _ _ (by omega), cell_off _ _ _ _ (by omega)]; exact h.cl.c0
  · rw [cell_off _ _ _ _ (by omega), cell_off _ _ _ _ (by omega)]; exact h.cl.c1
  · rw [cell_off _ _ _ _ (by omega), cell_off _ _ _ _ (by omega)]; exact h.cl.c2
  · rw [cell_off _ _ _ _ (by omega), cell_off _ _ _ _ (by omega)]; exact h.cl.c3
  · rw [cell_off _ _ _ _ (by omega), cell_off _ _ _ _ (by omega)]; exact h.cl.c4
  · rw [cell_off _ _ _ _ (by omega), cell_off _ _ _ _ (by omega)]; exact h.cl.c5
  · rw [cell_off _ _ _ _ (by omega)]; exact World.cell?_setCell_same _ _ _ h.t
  · rw [World.frozen?_setCell, World.frozen?_setCell]; exact h.tf
  · exact World.cell?_setCell_same _ _ _ ((cell_off W (g := w.heap.size + 1 + 1) (g' := w.heap.size + 1 + 1 + 1) 0 0 _ (by omega)).trans h.c)
  · rw [World.frozen?_setCell, World.frozen?_setCell]; exact h.cf
theorem CW.drew {w W : World} {x : Bx} {t c : Int} (H : Rd w x) (h : CW w W x t c) : CW w W.drew x t c :=
  ⟨H.below h.b.drew, ⟨h.cl.c0, h.cl.c1, h.cl.c2, h.cl.c3, h.cl.c4, h.cl.c5⟩, h.b.drew, h.s, h.t, h.tf, h.c, h.cf⟩
theorem ow_drew {w : World} {base : Nat} {z : Bx} (h : Ow w base z) : Ow w.drew base z := ⟨h.oa, h.oi, h.ob, h.ol, h.ot⟩
abbrev fin0 (g : Nat) (W : World) (a b : Value) : World := (W.setCell ⟨g + 1 + 1, 0, none⟩ a).setCell ⟨g + 1 + 1 + 1, 0, none⟩ b
abbrev fin1 (g : Nat) (W : World) (v0 v1 v2 v3 v4 v5 : Value) : World := (((((W.setCell ⟨g + 1, 0, none⟩ v0).setCell ⟨g + 1, 1, none⟩ v1).setCell ⟨g + 1, 2, none⟩ v2).setCell ⟨g + 1, 3, none⟩ v3).setCell ⟨g + 1, 4, none⟩ v4).setCell ⟨g + 1, 5, none⟩ v5
abbrev fin (g : Nat) (W : World) (v0 v1 v2 v3 v4 v5 a b : Value) : World := (fin0 g (fin1 g (fin0 g W a b) v0 v1 v2 v3 v4 v5) a b).drew
theorem box_drew {w : World} {base g : Nat} {v0 v1 v2 v3 v4 v5 : Value} (h : Box w base g v0 v1 v2 v3 v4 v5) : Box w.drew base g v0 v1 v2 v3 v4 v5 := h
theorem box_fin0 {w W : World} {v0 v1 v2 v3 v4 v5 : Value} (X : Box W w.heap.size (w.heap.size + 1) v0 v1 v2 v3 v4 v5) (a b : Value) : Box (fin0 w.heap.size W a b) w.heap.size (w.heap.size + 1) v0 v1 v2 v3 v4 v5 :=
  row_set (row_set X (show w.heap.size + 1 ≠ w.heap.size + 1 + 1 by omega) 0 a) (show w.heap.size + 1 ≠ w.heap.size + 1 + 1 + 1 by omega) 0 b
theorem CW.final {w W : World} {x : Bx} {v0 v1 v2 v3 v4 v5 : Value} {t0 c0 : Int} (H : Rd w x) (h : CW w W x t0 c0) (X : Box W w.heap.size (w.heap.size + 1) v0 v1 v2 v3 v4 v5) (t c : Int) :
    CW w (fin w.heap.size W v0 v1 v2 v3 v4 v5 (.int .i64 t) (.int .i64 c)) x t c ∧ Box (fin w.heap.size W v0 v1 v2 v3 v4 v5 (.int .i64 t) (.int .i64 c)) w.heap.size (w.heap.size + 1) v0 v1 v2 v3 v4 v5 := by
  have b := box_six (box_fin0 X (.int .i64 t) (.int .i64 c)) v0 v1 v2 v3 v4 v5
  exact ⟨(CW.told H (CW.grown H (CW.told H h t c) b.2) t c).drew H, box_drew (box_fin0 b.1 _ _)⟩
theorem ow_final {w W : World} {base : Nat} {z : Bx} (O : Ow W base z) (hb : w.heap.size + 4 ≤ base) (v0 v1 v2 v3 v4 v5 a b : Value) : Ow (fin w.heap.size W v0 v1 v2 v3 v4 v5 a b) w.heap.size z := by
  have L := ow_lo O
  exact ow_drew ((ow_set (ow_set (ow_six (ow_set (ow_set O (off_lo L (by omega)) 0 a) (off_lo L (by omega)) 0 b) (off_lo L (by omega)) v0 v1 v2 v3 v4 v5) (off_lo L (by omega)) 0 a) (off_lo L (by omega)) 0 b).rebase (by omega))
structure DW (u W : World) (z : Bx) (base g : Nat) : Prop where
  r : Rd W z
  v : Var W base g z
  o : Ow W (base + 4) z
  b : Below u.heap.size u W
theorem DW.start {u : World} {z : Bx} {base g : Nat} (V : Var u base g z) (O : Ow u (base + 4) z) (s : Small z.b) : DW u u z base g := ⟨O.rd s, V, O, Below.refl _ _⟩
theorem DW.step {u W W' : World} {z : Bx} {base g : Nat} (h : DW u W z base g) (k : Below W.heap.size W W') : DW u W' z base g :=
  ⟨h.r.below k, Box.below h.v k (Box.lt h.v).2, h.o.below k (Nat.le_refl _), h.b.trans (k.mono h.b.size)⟩
theorem DW.drew {u W : World} {z : Bx} {base g : Nat} (h : DW u W z base g) : DW u W.drew z base g := h.step (Below.refl _ _).drew
theorem DW.grown {u W : World} {z : Bx} {base g : Nat} (h : DW u W z base g) : u.grownBy W (some g) := ⟨h.b.os, h.b.tape, h.b.output, h.b.size, fun j hj _ => h.b.block j hj⟩
end Go.Proofs.YtnmeiiaipacplaaGreat.ICmdB
namespace Go.Proofs.YtnmeiiaipacplaaGreat.ICmd
open Go.ChangeShapes Go.WideShapes Go.ChangeAt Go.RowKit BMem Bks ILists BHelp Ans ICopied ICmdB
open Lots (Says says_of NoOk)
theorem to_w {P : Program} {fn : Func} {R : Ending → World → Prop} {ex : Exit} {a : Act} {W : World} (Pr : World → Prop) (h : Pr W) (k : ∀ W, Pr W → bodyPostD P fn R ex a W) : bodyPostD P fn R ex a W := k W h
set_option maxRecDepth 100000 in
set_option maxHeartbeats 1000000 in
theorem iCmd (w : World) (x : Bx) (tb : Bool) (told : Prop) (K : Nat) (caps : Array Value) (P : Bk → Int → Int → Prop) (h : Rd w x) (ht : Says tb told)
    (hK : ∀ (args : Array Value) (u : World), (callFunc K args).run Tryz.prog u = .ok (.enter K args) u)
    (hf : Ok x.b → told → ∀ (u : World) (z : Bx), z.b = x.b → Var u w.heap.size (w.heap.size + 1) z → Ow u (w.heap.size + 4) z → Below w.heap.size w u → Calls Tryz.prog K (#[.pointer (some ⟨w.heap.size + 1, 0, none⟩)] ++ caps) u (Does P w.heap.size (w.heap.size + 1) u)) :
    Calls Tryz.prog 44 #[.agg #[.slice (some ⟨x.ga, 0, none⟩) x.b.ac.length x.ca, .slice (some ⟨x.gi, 0, none⟩) x.b.ic.length x.ci, .slice (some ⟨x.gb, 0, none⟩) x.b.bs.length x.cb, .slice (some ⟨x.gl, 0, none⟩) x.b.ls.length x.cl, .slice (some ⟨x.gt, 0, none⟩) x.b.ts.length x.ct, .int .i64 x.b.lot], .bool tb, .func (.func K) #[] caps] w (AnsC (told ∧ Ok x.b) x.b P w) := by
  obtain ⟨b0, h0⟩ := says_of (Ok x.b)
  have H0 := hide h0
  have HT := hide ht
  have HF := hide hf
  have H := hide h
  have hmf : ∀ (fn : Fn) (first cp : Array Value) (w : World), (Instr.makeFunc fn first cp).run Tryz.prog w = .ok (.func fn first cp) w := fun _ _ _ _ => rfl
  have C0 := hide (CW.start h)
  have X0 := hide (var_start w x)
  clear h0 ht hf h
  go_enter_defers Tryz.func44, Tryz.ntmps44
  cases tb
  · have N := hide (show ¬ (told ∧ Ok x.b) from fun hh => (unhide HT).no hh.1)
    go_wp2
    refine ⟨.tuple #[.agg #[.slice none 0 0, .slice none 0 0, .slice none 0 0, .slice none 0 0, .slice none 0 0, .int .i64 0], .int .i64 0, .int .i64 1], by simp [results, Tryz.results44, go_sem], .inl ⟨unhide N, rfl, ?_⟩⟩
    exact ((((Below.refl _ _).alloc (Nat.le_refl _) _).alloc (by simp) _).alloc (by simp; omega) _).alloc (by simp; omega) _
  go_wp2_with fail
  refine (IBooksOk.iBooksOk _ x b0 (unhide C0).r (unhide H0)).mono ?_
  rintro e w1 ⟨rfl, bb⟩
  have C1 := hide ((unhide C0).step bb)
  have X1 := hide ((unhide X0).below bb (by simp))
  clear bb C0 X0
  obtain ⟨c0, c1, c2, c3, c4, c5⟩ := (unhide C1).cl
  have t1 := (unhide C1).t
  have t2 := (unhide C1).tf
  have t3 := (unhide C1).c
  have t4 := (unhide C1).cf
  have r0 := (unhide X1).c0
  have r1 := (unhide X1).c1
  have r2 := (unhide X1).c2
  have r3 := (unhide X1).c3
  have r4 := (unhide X1).c4
  have r5 := (unhide X1).c5
  have f0 := (unhide X1).free 0
  have f1 := (unhide X1).free 1
  have f2 := (unhide X1).free 2
  have f3 := (unhide X1).free 3
  have f4 := (unhide X1).free 4
  have f5 := (unhide X1).free 5
  have B1 := hide (unhide C1).b
  cases b0
  · have N := hide (show ¬ (told ∧ Ok x.b) from fun hh => (unhide H0).no hh.2)
    go_wp2
    refine ⟨.tuple #[.agg #[.slice none 0 0, .slice none 0 0, .slice none 0 0, .slice none 0 0, .slice none 0 0, .int .i64 0], .int .i64 0, .int .i64 1], by simp [results, Tryz.results44, go_sem, r0, r1, r2, r3, r4, r5, t1, t3], .inl ⟨unhide N, rfl, ?_⟩⟩
    exact ((six (unhide B1) (by omega) _ _ _ _ _ _).setCell (p := ⟨w.heap.size + 1 + 1, 0, none⟩) (by simp; omega) _).setCell (p := ⟨w.heap.size + 1 + 1 + 1, 0, none⟩) (by simp; omega) _
  have OK := hide (unhide H0).yes
  have TOLD := hide (unhide HT).yes
  go_wp2_with fail
  refine (iCopied _ x (unhide C1).r).mono ?_
  rintro e w2 ⟨z, hz, rfl, oz, bb⟩
  have C2 := hide ((unhide C1).step bb)
  have X2 := hide ((unhide X1).below bb (by have := (unhide C1).s; omega))
  have LZ := hide (lo_mono (ow_lo oz) (show w.heap.size + 4 ≤ w1.heap.size from (unhide C1).s))
  have OZ := hide (oz.rebase (show w.heap.size + 4 ≤ w1.heap.size from (unhide C1).s))
  have HZ := hide hz
  clear bb oz hz C1 X1 c0 c1 c2 c3 c4 c5 t1 t2 t3 t4 r0 r1 r2 r3 r4 r5 f0 f1 f2 f3 f4 f5 B1
  obtain ⟨c0, c1, c2, c3, c4, c5⟩ := (unhide C2).cl
  have r0 := (unhide X2).c0
  have r1 := (unhide X2).c1
  have r2 := (unhide X2).c2
  have r3 := (unhide X2).c3
  have r4 := (unhide X2).c4
  have r5 := (unhide X2).c5
  have f0 := (unhide X2).free 0
  have f1 := (unhide X2).free 1
  have f2 := (unhide X2).free 2
  have f3 := (unhide X2).free 3
  have f4 := (unhide X2).free 4
  have f5 := (unhide X2).free 5
  go_wp2_with fail
  have bx3 := box_six (unhide X2) (.slice (some ⟨z.ga, 0, none⟩) z.b.ac.length z.ca) (.slice (some ⟨z.gi, 0, none⟩) z.b.ic.length z.ci) (.slice (some ⟨z.gb, 0, none⟩) z.b.bs.length z.cb) (.slice (some ⟨z.gl, 0, none⟩) z.b.ls.length z.cl) (.slice (some ⟨z.gt, 0, none⟩) z.b.ts.length z.ct) (.int .i64 z.b.lot)
  have C3 := hide (CW.grown (unhide H) (unhide C2) bx3.2)
  have O3 := hide (ow_six (unhide OZ) (off_lo (unhide LZ) (g := w.heap.size + 1) (by omega)) (.slice (some ⟨z.ga, 0, none⟩) z.b.ac.length z.ca) (.slice (some ⟨z.gi, 0, none⟩) z.b.ic.length z.ci) (.slice (some ⟨z.gb, 0, none⟩) z.b.bs.length z.cb) (.slice (some ⟨z.gl, 0, none⟩) z.b.ls.length z.cl) (.slice (some ⟨z.gt, 0, none⟩) z.b.ts.length z.ct) (.int .i64 z.b.lot))
  refine ((unhide HF) (unhide OK) (unhide TOLD) _ z (unhide HZ) bx3.1 (unhide O3) (unhide C3).b).mono ?_
  rintro e w4 ⟨b', t, c, hp, rfl, hz4, gr⟩
  have C4 := hide (CW.grown (unhide H) (unhide C3) gr)
  have PP := hide hp
  clear bx3 gr hp c0 c1 c2 c3 c4 c5 r0 r1 r2 r3 r4 r5 f0 f1 f2 f3 f4 f5 X2 C2 C3 O3 OZ LZ HZ
  have t1 := (unhide C4).t
  have t2 := (unhide C4).tf
  have t3 := (unhide C4).c
  have t4 := (unhide C4).cf
  rcases hz4 with ⟨rfl, z4, hz4, v4, o4⟩ | ⟨hc, v4⟩
  · have HZ4 := hide hz4
    clear hz4
    have d0 := v4.c0
    have d1 := v4.c1
    have d2 := v4.c2
    have d3 := v4.c3
    have d4 := v4.c4
    have d5 := v4.c5
    have f0 := v4.free 0
    have f1 := v4.free 1
    have f2 := v4.free 2
    have f3 := v4.free 3
    have f4 := v4.free 4
    have f5 := v4.free 5
    have E := hide (CW.final (unhide H) (unhide C4) v4 t 0)
    have O4 := hide o4
    clear v4 o4
    go_wp2_with fail
    go_region
    go_wp2
    refine to_w (fun W => CW w W x t 0 ∧ Box W w.heap.size (w.heap.size + 1) (.slice (some ⟨z4.ga, 0, none⟩) z4.b.ac.length z4.ca) (.slice (some ⟨z4.gi, 0, none⟩) z4.b.ic.length z4.ci) (.slice (some ⟨z4.gb, 0, none⟩) z4.b.bs.length z4.cb) (.slice (some ⟨z4.gl, 0, none⟩) z4.b.ls.length z4.cl) (.slice (some ⟨z4.gt, 0, none⟩) z4.b.ts.length z4.ct) (.int .i64 z4.b.lot) ∧ Ow W w.heap.size z4) ?_ ?_
    · exact ⟨(unhide E).1, (unhide E).2, ow_final (unhide O4) (Nat.le_refl _) _ _ _ _ _ _ _ _⟩
    rintro W ⟨E1, E2, E3⟩
    refine leaves_cons (f := 100) (args := #[.pointer (some ⟨w.heap.size + 1 + 1 + 1, 0, none⟩), .pointer (some ⟨w.heap.size, 0, none⟩), .pointer (some ⟨w.heap.size + 1, 0, none⟩), .pointer (some ⟨w.heap.size + 1 + 1, 0, none⟩)]) (by simp) (by simp [go_sem]) ?_
    refine (back_no ⟨w.heap.size + 1 + 1 + 1, 0, none⟩ ⟨w.heap.size, 0, none⟩ ⟨w.heap.size + 1, 0, none⟩ ⟨w.heap.size + 1 + 1, 0, none⟩ .returning _ E1.c).mono ?_
    rintro e u' w6 ⟨rfl, rfl, rfl⟩
    have g0 := E2.c0
    have g1 := E2.c1
    have g2 := E2.c2
    have g3 := E2.c3
    have g4 := E2.c4
    have g5 := E2.c5
    have et := E1.t
    have ec := E1.c
    refine ⟨.tuple #[.agg #[.slice (some ⟨z4.ga, 0, none⟩) z4.b.ac.length z4.ca, .slice (some ⟨z4.gi, 0, none⟩) z4.b.ic.length z4.ci, .slice (some ⟨z4.gb, 0, none⟩) z4.b.bs.length z4.cb, .slice (some ⟨z4.gl, 0, none⟩) z4.b.ls.length z4.cl, .slice (some ⟨z4.gt, 0, none⟩) z4.b.ts.length z4.ct, .int .i64 z4.b.lot], .int .i64 t, .int .i64 0], by simp [results, Tryz.results44, go_sem, g0, g1, g2, g3, g4, g5, et, ec], .inr ⟨⟨unhide TOLD, unhide OK⟩, b', t, 0, z4, unhide PP, .inl ⟨rfl, unhide HZ4, rfl⟩, E3, E1.b⟩⟩
  · obtain ⟨a0, a1, a2, a3, a4, n0, n1, n2, n3, n4, k0, k1, k2, k3, k4, l, v4⟩ := v4
    have d0 := v4.c0
    have d1 := v4.c1
    have d2 := v4.c2
    have d3 := v4.c3
    have d4 := v4.c4
    have d5 := v4.c5
    have f0 := v4.free 0
    have f1 := v4.free 1
    have f2 := v4.free 2
    have f3 := v4.free 3
    have f4 := v4.free 4
    have f5 := v4.free 5
    have E := hide (CW.final (unhide H) (unhide C4) v4 t c)
    have HC := hide hc
    clear v4 hc
    go_wp2_with fail
    go_region
    go_wp2
    refine leaves_cons (f := 100) (args := #[.pointer (some ⟨w.heap.size + 1 + 1 + 1, 0, none⟩), .pointer (some ⟨w.heap.size, 0, none⟩), .pointer (some ⟨w.heap.size + 1, 0, none⟩), .pointer (some ⟨w.heap.size + 1 + 1, 0, none⟩)]) (by simp) (by simp [go_sem]) ?_
    refine (back_yes w x c t .returning _ (unhide HC) (unhide E).1.r (unhide E).1.cl (unhide E).1.s ⟨_, _, _, _, _, _, _, _, _, _, _, _, _, _, _, _, (unhide E).2⟩ (unhide E).1.c (unhide E).1.t (unhide E).1.tf).mono ?_
    rintro e u' w6 ⟨rfl, rfl, z6, hz6, vz, oz, ec, et, bb, _⟩
    have g0 := vz.c0
    have g1 := vz.c1
    have g2 := vz.c2
    have g3 := vz.c3
    have g4 := vz.c4
    have g5 := vz.c5
    refine ⟨.tuple #[.agg #[.slice (some ⟨z6.ga, 0, none⟩) z6.b.ac.length z6.ca, .slice (some ⟨z6.gi, 0, none⟩) z6.b.ic.length z6.ci, .slice (some ⟨z6.gb, 0, none⟩) z6.b.bs.length z6.cb, .slice (some ⟨z6.gl, 0, none⟩) z6.b.ls.length z6.cl, .slice (some ⟨z6.gt, 0, none⟩) z6.b.ts.length z6.ct, .int .i64 z6.b.lot], .int .i64 0, .int .i64 c], by simp [results, Tryz.results44, go_sem, g0, g1, g2, g3, g4, g5, ec, et], .inr ⟨⟨unhide TOLD, unhide OK⟩, b', t, c, z6, unhide PP, .inr ⟨unhide HC, hz6, rfl⟩, oz.rebase (by omega), (unhide E).1.b.trans bb⟩⟩
end Go.Proofs.YtnmeiiaipacplaaGreat.ICmd
namespace Go.Proofs.YtnmeiiaipacplaaGreat.IPostB
open Go.ChangeShapes Go.WideShapes Go.ChangeAt Go.RowKit BMem Bks ILists BHelp Ans ICopied ICmdB IHave SBk
open IBalsFit (one_more all_one)
open ITrade (at_new)
open Lots (Says says_of NoOk)
open Bals (T3)
open Tup5 (T5)
set_option maxRecDepth 100000 in
set_option maxHeartbeats 4000000 in
theorem iPostT (u : World) (z : Bx) (base g gL capL : Nat) (ls : List T3) (ok : Lists z.b) (sm : Small z.b) (V : Var u base g z) (O : Ow u (base + 4) z) (hg : g < base + 4) (hl : ls.length ≤ 1048576) (hgL : gL < u.heap.size) (hL : Triples.At3 u gL ls) (hf : Bals.Formed ls) (he : Bals.Even ls) :
    Calls Tryz.prog 48 #[.pointer (some ⟨g, 0, none⟩), .slice (some ⟨gL, 0, none⟩) ls.length capL] u fun e u' => ∃ (y : Bx) (c : Int), IsPosted z.b ls y.b c ∧ e = .returned (.int .i64 c) ∧ Var u' base g y ∧ Ow u' (base + 4) y ∧ u.grownBy u' (some g) ∧ y.gt = z.gt ∧ y.ct = z.ct := by
  have PC := hide (fun qs c (hp : Bals.IsPost z.b.bs ls (shortL z.b.ac) qs c) => post_code hp ok.2.2.1 hf he (Nat.le_trans (short_len _) ok.1.1))
  have xl : (shortL z.b.ac).length ≤ 1048576 := Nat.le_trans (short_len _) sm.1
  have na := sm.1
  have nb := sm.2.2.1
  have L0 := hide hL
  have S0 := hide (DW.start V O sm)
  have S1 := hide ((unhide S0).step (one_more u (.cells #[] 3)))
  have O1 := hide (Shorts.lit0 u u.heap.size (Nat.le_refl _) rfl)
  have hb0 := O.oa.lt
  have hgu := Box.lt V
  have d0 := (unhide S1).v.c0
  have d2 := (unhide S1).v.c2
  have z1 : u.heap.size < (u.alloc (.cells #[] 3)).heap.size := by simp
  clear ok V O hf he hL sm
  go_enter Tryz.func48, Tryz.ntmps48
  go_wp2
  generalize u.alloc (.cells #[] 3) = u1 at *
  clear d0 d2
  go_loopw [5, 16] (fun l j wr => ∃ (p : List Int) (g1 c1 k : Nat), l = .slice (some ⟨g1, 0, none⟩) p.length c1 ∧ j = .int .i64 k ∧ k ≤ z.b.ac.length ∧ p.length ≤ k ∧ Hid (p = shortL (z.b.ac.take k)) ∧ Hid (Ints.Own wr u.heap.size g1 p.length c1 p) ∧ Hid (DW u wr z base g)) (fun _ j _ => z.b.ac.length - (intOf j).toNat)
  case atStart => exact ⟨[], u.heap.size, 0, 0, rfl, rfl, by omega, by simp, hide rfl, O1, S1⟩
  case round =>
    clear O1 S1
    obtain ⟨p, g1, c1, k, rfl, rfl, hk, pl, HP, H1, S2⟩ := hrel
    have bs := (unhide S2).b.size
    by_cases t : k < z.b.ac.length
    · obtain ⟨e0, e1⟩ := (unhide S2).r.ra k t
      have NP := hide (short_next (ps := z.b.ac) (k := k) t)
      rw [← unhide HP] at NP
      obtain ⟨no, hno⟩ : ∃ no, Hid ((z.b.ac.getD k (0, 0)).1 = no) := ⟨_, rfl⟩
      obtain ⟨kd, hkd⟩ : ∃ kd, Hid ((z.b.ac.getD k (0, 0)).2 = kd) := ⟨_, rfl⟩
      rw [unhide hno] at e0
      rw [unhide hkd] at e1
      have NQ := hide (show shortL (z.b.ac.take (k + 1)) = p ++ (if kd = 1 then [] else [no]) from by
        first | (rw [unhide NP, ← unhide hno, ← unhide hkd]; done) | (rw [unhide NP, ← unhide hno, ← unhide hkd]; rfl))
      clear NP hno hkd
      have S3 := hide ((unhide S2).step (one_more wr (.cells #[.int .i64 no, .int .i64 kd] 92)))
      have H3 := hide (Shorts.own_alloc (unhide H1) (.cells #[.int .i64 no, .int .i64 kd] 92))
      by_cases own : kd = 1
      · have NP1 : Hid (shortL (z.b.ac.take (k + 1)) = p) := hide (by rw [unhide NQ, if_pos own, List.append_nil])
        clear NQ
        subst own
        go_wp2
        go_roundw
        case rel => exact ⟨p, g1, c1, k + 1, rfl, by go_num, by omega, by omega, hide (unhide NP1).symm, H3, S3⟩
        case measure => simp [intOf]; omega
      · have NP1 : Hid (shortL (z.b.ac.take (k + 1)) = p ++ [no]) := hide (by rw [unhide NQ, if_neg own])
        have ob : (kd != 1) = true := by simpa using own
        clear NQ own
        go_wp2_with (first | (at_builtin; refine Shorts.wp_appI _ rfl _ _ rfl u.heap.size g1 p.length c1 p (wr.heap.size + 1) no rfl rfl (Shorts.own_alloc (unhide H3) _) (by simp) (by omega) (by simp; omega) ?_) | go_in)
        intro g5 c5 w5 o5 gr5 loc5
        have O5 := hide o5
        have S5 := hide (show DW u w5 z base g from by
          have l := (unhide H1).lt
          have s4 := (unhide S3).step (one_more (wr.alloc (.cells #[.int .i64 no, .int .i64 kd] 92)) (.cells #[.int .i64 no] 3))
          have b5 : Below u.heap.size u w5 := s4.b.grown gr5 (by simp; omega) (fun j hj => by cases hj; exact l.1)
          have lz := ow_up (unhide S0).o
          exact ⟨(unhide S0).r.below b5, Box.below (unhide S0).v b5 hgu.2, (unhide S0).o.below b5 (Nat.le_refl _), b5⟩)
        clear o5 gr5 loc5
        go_wp2
        go_roundw
        case rel => exact ⟨p ++ [no], g5, c5, k + 1, by rw [show (p ++ [no]).length = p.length + 1 by simp], by go_num, by omega, by simp; omega, hide (unhide NP1).symm, hide (by rw [show (p ++ [no]).length = p.length + 1 by simp]; exact unhide O5), S5⟩
        case measure => simp [intOf]; omega
    · obtain rfl : k = z.b.ac.length := by omega
      have EP := hide (show p = shortL z.b.ac by rw [unhide HP, List.take_of_length_le (by omega)])
      have pl2 : p.length ≤ 1048576 := by omega
      clear HP
      have d2 := (unhide S2).v.c2
      go_wp2_with fail
      refine (Post2.iBalsPost wr z.gb _ z.cb gL _ capL g1 _ c1 z.b.bs ls p rfl rfl rfl nb hl pl2 (unhide S2).r.lb (Nat.lt_of_lt_of_le hgL (unhide S2).b.size) (unhide H1).lt.2 (unhide S2).r.rb ((unhide L0).below (unhide S2).b hgL) (unhide H1).at).mono ?_
      rintro e w3 ⟨qs, pc, g5, k5, hp, rfl, o5, bb⟩
      rw [unhide EP] at hp
      have S3 := hide ((unhide S2).step bb)
      have HP := hide hp
      have O5 := hide o5
      have l5 := o5.lt
      clear bb hp o5 d2
      have e2 := (unhide S3).v.c2
      have f2 := (unhide S3).v.free 2
      rcases (unhide PC) _ _ (unhide HP) with rfl | rfl | rfl | rfl
      · have OY := hide (ow_withB (unhide S3).o ((unhide O5).rebase (base' := base + 4) (by omega)))
        have UZ := hide (ow_up (unhide S0).o)
        go_wp2
        go_ret
        refine ⟨withB z g5 k5 qs, 0, ⟨qs, 0, unhide HP, .inl ⟨rfl, rfl, rfl⟩⟩, rfl, (Box.set2 (unhide S3).v _).1, ?_, Pairs.grown_trans (unhide S3).grown (Box.set2 (unhide S3).v _).2, rfl, rfl⟩
        refine ow_set (unhide OY) ?_ 2 _
        have LO := ow_lo (unhide S0).o
        unfold Lo at LO
        unfold Off
        simp
        omega
      · go_wp2
        go_ret
        exact ⟨z, 5, ⟨qs, 3, unhide HP, .inr (.inl ⟨rfl, rfl, rfl⟩)⟩, rfl, (unhide S3).v, (unhide S3).o, (unhide S3).grown, rfl, rfl⟩
      · go_wp2
        go_ret
        exact ⟨z, 8, ⟨qs, 4, unhide HP, .inr (.inr (.inl ⟨rfl, rfl, rfl⟩))⟩, rfl, (unhide S3).v, (unhide S3).o, (unhide S3).grown, rfl, rfl⟩
      · go_wp2
        go_ret
        exact ⟨z, 7, ⟨qs, 5, unhide HP, .inr (.inr (.inr ⟨rfl, rfl, rfl⟩))⟩, rfl, (unhide S3).v, (unhide S3).o, (unhide S3).grown, rfl, rfl⟩
theorem iPost (u : World) (z : Bx) (base g gL capL : Nat) (ls : List T3) (ok : Lists z.b) (sm : Small z.b) (V : Var u base g z) (O : Ow u (base + 4) z) (hg : g < base + 4) (hl : ls.length ≤ 1048576) (hgL : gL < u.heap.size) (hL : Triples.At3 u gL ls) (hf : Bals.Formed ls) (he : Bals.Even ls) :
    Calls Tryz.prog 48 #[.pointer (some ⟨g, 0, none⟩), .slice (some ⟨gL, 0, none⟩) ls.length capL] u fun e u' => ∃ (y : Bx) (c : Int), IsPosted z.b ls y.b c ∧ e = .returned (.int .i64 c) ∧ Var u' base g y ∧ Ow u' (base + 4) y ∧ u.grownBy u' (some g) :=
  (iPostT u z base g gL capL ls ok sm V O hg hl hgL hL hf he).mono (fun e u' ⟨y, c, h1, h2, h3, h4, h5, _⟩ => ⟨y, c, h1, h2, h3, h4, h5⟩)
end Go.Proofs.YtnmeiiaipacplaaGreat.IPostB
namespace Go.Proofs.YtnmeiiaipacplaaGreat.ICmdW
open Go.ChangeShapes Go.WideShapes Go.ChangeAt Go.RowKit BMem Bks ILists BHelp Ans ICopied ICmdB
open Lots (Says says_of NoOk)
open ICmd (to_w)
structure Frm (u u' : World) (base g : Nat) : Prop where
  os : u'.os = u.os
  tape : u'.tape = u.tape
  output : u'.output = u.output
  size : u.heap.size ≤ u'.heap.size
  block : ∀ j, j < base + 4 → j ≠ g → u'.heap[j]? = u.heap[j]?
theorem Frm.refl (u : World) (base g : Nat) : Frm u u base g := ⟨rfl, rfl, rfl, Nat.le_refl _, fun _ _ _ => rfl⟩
theorem Frm.trans {u v w : World} {base g : Nat} (h : Frm u v base g) (k : Frm v w base g) : Frm u w base g :=
  ⟨k.os.trans h.os, k.tape.trans h.tape, k.output.trans h.output, Nat.le_trans h.size k.size, fun j hj hn => (k.block j hj hn).trans (h.block j hj hn)⟩
theorem Frm.grown {u v : World} {base g r : Nat} (k : u.grownBy v (some r)) (hr : r = g ∨ base + 4 ≤ r) (hs : base + 4 ≤ u.heap.size) : Frm u v base g :=
  ⟨k.os, k.tape, k.output, k.size, fun j hj hn => k.block j (by omega) (fun e => by injection e; omega)⟩
theorem Frm.below {u v : World} {base g B : Nat} (k : Below B u v) (hB : base + 4 ≤ B) : Frm u v base g :=
  ⟨k.os, k.tape, k.output, k.size, fun j hj hn => k.block j (by omega)⟩
end Go.Proofs.YtnmeiiaipacplaaGreat.ICmdW
namespace Go.Proofs.YtnmeiiaipacplaaGreat.ICmdF
open Go.ChangeShapes Go.WideShapes Go.ChangeAt Go.RowKit BMem Bks ILists BHelp Ans ICopied ICmdB ICmdW
open SIssue (off_box)
open SMove (AnsM)
def Fin (told : Prop) (b : Bk) (P : Bk → Int → Int → Prop) (base : Nat) (a0 a1 a2 a3 a4 : Option Addr) (n0 n1 n2 n3 n4 k0 k1 k2 k3 k4 : Nat) (l : Int) (t c : Int) (W : World) : Prop :=
  (¬ told ∧ (a0 = none ∧ n0 = 0 ∧ k0 = 0 ∧ a1 = none ∧ n1 = 0 ∧ k1 = 0 ∧ a2 = none ∧ n2 = 0 ∧ k2 = 0 ∧ a3 = none ∧ n3 = 0 ∧ k3 = 0 ∧ a4 = none ∧ n4 = 0 ∧ k4 = 0 ∧ l = 0) ∧ t = 0 ∧ c = 1) ∨
  (told ∧ ∃ (z : Bx) (b' : Bk) (t' : Int), P b' t' c ∧ (a0 = some ⟨z.ga, 0, none⟩ ∧ n0 = z.b.ac.length ∧ k0 = z.ca ∧ a1 = some ⟨z.gi, 0, none⟩ ∧ n1 = z.b.ic.length ∧ k1 = z.ci ∧ a2 = some ⟨z.gb, 0, none⟩ ∧ n2 = z.b.bs.length ∧ k2 = z.cb ∧ a3 = some ⟨z.gl, 0, none⟩ ∧ n3 = z.b.ls.length ∧ k3 = z.cl ∧ a4 = some ⟨z.gt, 0, none⟩ ∧ n4 = z.b.ts.length ∧ k4 = z.ct ∧ l = z.b.lot) ∧ ((c = 0 ∧ z.b = b' ∧ t = t') ∨ (c ≠ 0 ∧ z.b = b ∧ t = 0)) ∧ Ow W base z)
section
variable {told : Prop} {b : Bk} {P : Bk → Int → Int → Prop} {base : Nat} {a0 a1 a2 a3 a4 : Option Addr} {n0 n1 n2 n3 n4 k0 k1 k2 k3 k4 : Nat} {l : Int} {t c : Int} {W W' : World}
theorem Fin.map (h : Fin told b P base a0 a1 a2 a3 a4 n0 n1 n2 n3 n4 k0 k1 k2 k3 k4 l t c W) (f : ∀ z, Ow W base z → Ow W' base z) : Fin told b P base a0 a1 a2 a3 a4 n0 n1 n2 n3 n4 k0 k1 k2 k3 k4 l t c W' := by
  rcases h with h | ⟨h, z, b', t', h1, h2, h3, h4⟩
  · exact .inl h
  · exact .inr ⟨h, z, b', t', h1, h2, h3, f z h4⟩
theorem Fin.rebase {base' : Nat} (h : Fin told b P base a0 a1 a2 a3 a4 n0 n1 n2 n3 n4 k0 k1 k2 k3 k4 l t c W) (hb : base' ≤ base) : Fin told b P base' a0 a1 a2 a3 a4 n0 n1 n2 n3 n4 k0 k1 k2 k3 k4 l t c W := by
  rcases h with h | ⟨h, z, b', t', h1, h2, h3, h4⟩
  · exact .inl h
  · exact .inr ⟨h, z, b', t', h1, h2, h3, h4.rebase hb⟩
theorem Fin.alloc (h : Fin told b P base a0 a1 a2 a3 a4 n0 n1 n2 n3 n4 k0 k1 k2 k3 k4 l t c W) (o : Obj) : Fin told b P base a0 a1 a2 a3 a4 n0 n1 n2 n3 n4 k0 k1 k2 k3 k4 l t c (W.alloc o) := h.map fun z O => ow_alloc O o
theorem Fin.drew (h : Fin told b P base a0 a1 a2 a3 a4 n0 n1 n2 n3 n4 k0 k1 k2 k3 k4 l t c W) : Fin told b P base a0 a1 a2 a3 a4 n0 n1 n2 n3 n4 k0 k1 k2 k3 k4 l t c W.drew := h.map fun z O => ow_drew O
theorem Fin.six {base' g : Nat} {v0 v1 v2 v3 v4 v5 : Value} (h : Fin told b P base a0 a1 a2 a3 a4 n0 n1 n2 n3 n4 k0 k1 k2 k3 k4 l t c W) (B : Box W base' g v0 v1 v2 v3 v4 v5) (u0 u1 u2 u3 u4 u5 : Value) : Fin told b P base a0 a1 a2 a3 a4 n0 n1 n2 n3 n4 k0 k1 k2 k3 k4 l t c ((((((W.setCell ⟨g, 0, none⟩ u0).setCell ⟨g, 1, none⟩ u1).setCell ⟨g, 2, none⟩ u2).setCell ⟨g, 3, none⟩ u3).setCell ⟨g, 4, none⟩ u4).setCell ⟨g, 5, none⟩ u5) :=
  h.map fun z O => ow_six O (off_box O B) _ _ _ _ _ _
end
theorem fin_of {told : Prop} {b : Bk} {P : Bk → Int → Int → Prop} {w w' : World} {e : Ending} (h : AnsC told b P w e w') :
    ∃ (a0 a1 a2 a3 a4 : Option Addr) (n0 n1 n2 n3 n4 k0 k1 k2 k3 k4 : Nat) (l : Int) (t c : Int), e = .returned (.tuple #[.agg #[.slice a0 n0 k0, .slice a1 n1 k1, .slice a2 n2 k2, .slice a3 n3 k3, .slice a4 n4 k4, .int .i64 l], .int .i64 t, .int .i64 c]) ∧ Fin told b P w.heap.size a0 a1 a2 a3 a4 n0 n1 n2 n3 n4 k0 k1 k2 k3 k4 l t c w' ∧ Below w.heap.size w w' := by
  rcases h with ⟨N, rfl, bb⟩ | ⟨T, b', t, c, z, hP, ⟨h1, h2, rfl⟩ | ⟨h1, h2, rfl⟩, oz, bb⟩
  · exact ⟨none, none, none, none, none, 0, 0, 0, 0, 0, 0, 0, 0, 0, 0, 0, 0, 1, rfl, .inl ⟨N, ⟨rfl, rfl, rfl, rfl, rfl, rfl, rfl, rfl, rfl, rfl, rfl, rfl, rfl, rfl, rfl, rfl⟩, rfl, rfl⟩, bb⟩
  · exact ⟨_, _, _, _, _, _, _, _, _, _, _, _, _, _, _, _, t, c, rfl, .inr ⟨T, z, b', t, hP, ⟨rfl, rfl, rfl, rfl, rfl, rfl, rfl, rfl, rfl, rfl, rfl, rfl, rfl, rfl, rfl, rfl⟩, .inl ⟨h1, h2, rfl⟩, oz⟩, bb⟩
  · exact ⟨_, _, _, _, _, _, _, _, _, _, _, _, _, _, _, _, 0, c, rfl, .inr ⟨T, z, b', t, hP, ⟨rfl, rfl, rfl, rfl, rfl, rfl, rfl, rfl, rfl, rfl, rfl, rfl, rfl, rfl, rfl, rfl⟩, .inr ⟨h1, h2, rfl⟩, oz⟩, bb⟩
theorem fin_ansM {told : Prop} {b : Bk} {P Q : Bk → Int → Int → Prop} {w W : World} {base : Nat} {a0 a1 a2 a3 a4 : Option Addr} {n0 n1 n2 n3 n4 k0 k1 k2 k3 k4 : Nat} {l : Int} {t c : Int} (h : Fin told b P base a0 a1 a2 a3 a4 n0 n1 n2 n3 n4 k0 k1 k2 k3 k4 l t c W) (hb : w.heap.size ≤ base) (B : Below w.heap.size w W)
    (h0 : ∀ b' t, P b' t 0 → Q b' t 0) (h1 : ∀ b' t c, P b' t c → c ≠ 0 → Q b 0 c) : AnsM told Q w (.returned (.tuple #[.agg #[.slice a0 n0 k0, .slice a1 n1 k1, .slice a2 n2 k2, .slice a3 n3 k3, .slice a4 n4 k4, .int .i64 l], .int .i64 t, .int .i64 c])) W := by
  rcases h with ⟨N, ⟨rfl, rfl, rfl, rfl, rfl, rfl, rfl, rfl, rfl, rfl, rfl, rfl, rfl, rfl, rfl, rfl⟩, rfl, rfl⟩ | ⟨T, z, b', t', hP, ⟨rfl, rfl, rfl, rfl, rfl, rfl, rfl, rfl, rfl, rfl, rfl, rfl, rfl, rfl, rfl, rfl⟩, ⟨rfl, rfl, rfl⟩ | ⟨hc, hz, rfl⟩, oz⟩
  · exact .inl ⟨N, rfl, B⟩
  · exact .inr ⟨T, z, t, 0, h0 _ _ hP, rfl, oz.rebase hb, B⟩
  · exact .inr ⟨T, z, 0, c, by rw [hz]; exact h1 _ _ _ hP hc, rfl, oz.rebase hb, B⟩
end Go.Proofs.YtnmeiiaipacplaaGreat.ICmdF
namespace Go.Proofs.YtnmeiiaipacplaaGreat.FxI
open Go.ChangeShapes Go.WideShapes Go.ChangeAt Go.RowKit BMem Bks ILists BHelp Ans ICopied ICmdB IHave SBk Trd Corp
open SIssue (posted_small ne_true ne_false eq_true eq_false)
open IBalsFit (one_more all_one St)
open ITrade (at_new)
open Lots (Says says_of NoOk)
open Bals (T3)
open Triples (Own3 At3)
open SFx (ToldF fx_formed)
open MulC (Tells)
def DoneP (Q : Bk → Int → Int → Prop) (b b' : Bk) (t c : Int) : Prop := (c = 0 ∧ Q b' t 0) ∨ (c ≠ 0 ∧ Q b 0 c)
theorem DoneP.done {Q : Bk → Int → Int → Prop} {b b' : Bk} {t : Int} (h : DoneP Q b b' t 0) : Q b' t 0 := by
  rcases h with h | h
  · exact h.2
  · exact absurd rfl h.1
theorem DoneP.not {Q : Bk → Int → Int → Prop} {b b' : Bk} {t c : Int} (h : DoneP Q b b' t c) (hc : c ≠ 0) : Q b 0 c := by
  rcases h with h | h
  · exact absurd h.1 hc
  · exact h.2
def Keeps (base : Nat) (W W' : World) : Prop := ∀ p, p < base → ∀ v, W.cell? ⟨p, 0, none⟩ = some v → W'.cell? ⟨p, 0, none⟩ = some v
theorem Keeps.below {base B : Nat} {W W' : World} (k : Below B W W') (h : base ≤ B) : Keeps base W W' := fun p hp v hv => (k.cell (p := ⟨p, 0, none⟩) (show p < B by omega)).trans hv
theorem Keeps.grown {base g : Nat} {W W' : World} (k : W.grownBy W' (some g)) (h : base ≤ g) : Keeps base W W' := fun p hp v hv => k.cell hv (fun e => by injection e with e; have e' : p = g := e; omega)
def Desk (b : Bk) (a d f t c : Int) : Prop := (FxNone b a d f t ∧ c = 3) ∨ (¬ FxNone b a d f t ∧ FxKind b a d f t ∧ c = 4) ∨ (¬ FxNone b a d f t ∧ ¬ FxKind b a d f t ∧ c = 0)
set_option maxRecDepth 100000 in
set_option maxHeartbeats 8000000 in
theorem iDesk (w : World) (x : Bx) (a d f t : Int) (h : Rd w x) (ok : Lists x.b) :
    Calls Tryz.prog 46 #[.agg #[.slice (some ⟨x.ga, 0, none⟩) x.b.ac.length x.ca, .slice (some ⟨x.gi, 0, none⟩) x.b.ic.length x.ci, .slice (some ⟨x.gb, 0, none⟩) x.b.bs.length x.cb, .slice (some ⟨x.gl, 0, none⟩) x.b.ls.length x.cl, .slice (some ⟨x.gt, 0, none⟩) x.b.ts.length x.ct, .int .i64 x.b.lot], .int .i64 a, .int .i64 d, .int .i64 f, .int .i64 t] w fun e w' => ∃ c, e = .returned (.int .i64 c) ∧ Desk x.b a d f t c ∧ Below w.heap.size w w' := by
  obtain ⟨b0, h0⟩ := says_of (∀ y ∈ [a, d], kindOf x.b.ac y ≠ 0)
  obtain ⟨b1, h1⟩ := says_of (∀ y ∈ [f, t], kindOf x.b.ic y ≠ 0)
  obtain ⟨t2, h2⟩ := says_of (kindOf x.b.ac a = 1)
  obtain ⟨t3, h3⟩ := says_of (kindOf x.b.ac d = 3)
  obtain ⟨t4, h4⟩ := says_of (kindOf x.b.ic f = 1)
  obtain ⟨t5, h5⟩ := says_of (kindOf x.b.ic t = 1)
  obtain ⟨t6, h6⟩ := says_of (f = t)
  have e6 : (f == t) = t6 := IRead.beq_of h6
  have H0 := hide h0
  have H1 := hide h1
  have H2 := hide h2
  have H3 := hide h3
  have H4 := hide h4
  have H5 := hide h5
  have H6 := hide h6
  have LI := hide ok
  have S1 := hide ((St.start h 36).step (one_more _ (.cells #[.int .i64 a, .int .i64 d] 3)))
  clear h0 h1 h2 h3 h4 h5 h6 h ok
  go_enter Tryz.func46, Tryz.ntmps46
  go_wp2_with fail
  refine (iHaveAccounts _ x (w.heap.size + 1) 2 2 [a, d] b0 (unhide S1).r (unhide LI).1 rfl (by omega) (by simp) (at_new _ [a, d] _ (by simp) rfl) (unhide H0)).mono ?_
  rintro e w1 ⟨rfl, bb⟩
  have S2 := hide ((unhide S1).step bb)
  clear bb S1
  cases b0
  · have NZ := hide (show FxNone x.b a d f t from by
      have := (unhide H0).no
      simp only [List.mem_cons, List.not_mem_nil, or_false, forall_eq_or_imp, forall_eq] at this
      unfold FxNone
      omega)
    go_wp2
    go_ret
    exact ⟨3, rfl, .inl ⟨unhide NZ, rfl⟩, (unhide S2).b⟩
  have d0 := (unhide S2).c.c0
  have d1 := (unhide S2).c.c1
  have d2 := (unhide S2).c.c2
  have d3 := (unhide S2).c.c3
  have d4 := (unhide S2).c.c4
  have d5 := (unhide S2).c.c5
  have S3 := hide ((unhide S2).step (one_more w1 (.cells #[.int .i64 f, .int .i64 t] 3)))
  go_wp2_with fail
  refine (iHaveInstrs _ x w1.heap.size 2 2 [f, t] b1 (unhide S3).r (unhide LI).2.1 rfl (by omega) (by simp) (at_new _ [f, t] _ rfl rfl) (unhide H1)).mono ?_
  rintro e w2 ⟨rfl, bb⟩
  have S4 := hide ((unhide S3).step bb)
  clear bb d0 d1 d2 d3 d4 d5 S3 S2
  cases b1
  · have NZ := hide (show FxNone x.b a d f t from by
      have := (unhide H1).no
      simp only [List.mem_cons, List.not_mem_nil, or_false, forall_eq_or_imp, forall_eq] at this
      unfold FxNone
      omega)
    go_wp2
    go_ret
    exact ⟨3, rfl, .inl ⟨unhide NZ, rfl⟩, (unhide S4).b⟩
  have NZ := hide (show ¬ FxNone x.b a d f t from by
    have p := (unhide H0).yes
    have q := (unhide H1).yes
    simp only [List.mem_cons, List.not_mem_nil, or_false, forall_eq_or_imp, forall_eq] at p q
    unfold FxNone
    omega)
  clear H0 H1
  have d0 := (unhide S4).c.c0
  have d1 := (unhide S4).c.c1
  have d2 := (unhide S4).c.c2
  have d3 := (unhide S4).c.c3
  have d4 := (unhide S4).c.c4
  have d5 := (unhide S4).c.c5
  go_wp2_with fail
  refine (IRead.iHolder _ x a t2 (unhide S4).r (unhide LI).1 (unhide H2)).mono ?_
  rintro e w3 ⟨rfl, bb⟩
  have S5 := hide ((unhide S4).step bb)
  clear bb d0 d1 d2 d3 d4 d5 S4
  cases t2
  · have KZ := hide (show FxKind x.b a d f t from .inl (unhide H2).no)
    go_wp2
    go_ret
    exact ⟨4, rfl, .inr (.inl ⟨unhide NZ, unhide KZ, rfl⟩), (unhide S5).b⟩
  have d0 := (unhide S5).c.c0
  have d1 := (unhide S5).c.c1
  have d2 := (unhide S5).c.c2
  have d3 := (unhide S5).c.c3
  have d4 := (unhide S5).c.c4
  have d5 := (unhide S5).c.c5
  go_wp2_with fail
  refine (IRead9.iDealer _ x d t3 (unhide S5).r (unhide LI).1 (unhide H3)).mono ?_
  rintro e w4 ⟨rfl, bb⟩
  have S6 := hide ((unhide S5).step bb)
  clear bb d0 d1 d2 d3 d4 d5 S5
  cases t3
  · have KZ := hide (show FxKind x.b a d f t from .inr (.inl (unhide H3).no))
    go_wp2
    go_ret
    exact ⟨4, rfl, .inr (.inl ⟨unhide NZ, unhide KZ, rfl⟩), (unhide S6).b⟩
  have d0 := (unhide S6).c.c0
  have d1 := (unhide S6).c.c1
  have d2 := (unhide S6).c.c2
  have d3 := (unhide S6).c.c3
  have d4 := (unhide S6).c.c4
  have d5 := (unhide S6).c.c5
  go_wp2_with fail
  refine (IRead.iCash _ x f t4 (unhide S6).r (unhide LI).2.1 (unhide H4)).mono ?_
  rintro e w5 ⟨rfl, bb⟩
  have S7 := hide ((unhide S6).step bb)
  clear bb d0 d1 d2 d3 d4 d5 S6
  cases t4
  · have KZ := hide (show FxKind x.b a d f t from .inr (.inr (.inl (unhide H4).no)))
    go_wp2
    go_ret
    exact ⟨4, rfl, .inr (.inl ⟨unhide NZ, unhide KZ, rfl⟩), (unhide S7).b⟩
  have d0 := (unhide S7).c.c0
  have d1 := (unhide S7).c.c1
  have d2 := (unhide S7).c.c2
  have d3 := (unhide S7).c.c3
  have d4 := (unhide S7).c.c4
  have d5 := (unhide S7).c.c5
  go_wp2_with fail
  refine (IRead.iCash _ x t t5 (unhide S7).r (unhide LI).2.1 (unhide H5)).mono ?_
  rintro e w6 ⟨rfl, bb⟩
  have S8 := hide ((unhide S7).step bb)
  clear bb d0 d1 d2 d3 d4 d5 S7
  cases t5
  · have KZ := hide (show FxKind x.b a d f t from .inr (.inr (.inr (.inl (unhide H5).no))))
    go_wp2
    go_ret
    exact ⟨4, rfl, .inr (.inl ⟨unhide NZ, unhide KZ, rfl⟩), (unhide S8).b⟩
  cases t6
  · have KZ := hide (show ¬ FxKind x.b a d f t from by
      have p := (unhide H2).yes
      have q := (unhide H3).yes
      have r := (unhide H4).yes
      have s := (unhide H5).yes
      have v := (unhide H6).no
      unfold FxKind
      omega)
    go_wp2
    go_ret
    exact ⟨0, rfl, .inr (.inr ⟨unhide NZ, unhide KZ, rfl⟩), (unhide S8).b⟩
  · have KZ := hide (show FxKind x.b a d f t from .inr (.inr (.inr (.inr (unhide H6).yes))))
    go_wp2
    go_ret
    exact ⟨4, rfl, .inr (.inl ⟨unhide NZ, unhide KZ, rfl⟩), (unhide S8).b⟩
set_option maxRecDepth 100000 in
theorem iGivenO (w : World) (a c i q : Int) (q1 : 0 ≤ q) (q2 : q ≤ 1000000000000000) :
    Calls Tryz.prog 50 #[.int .i64 a, .int .i64 c, .int .i64 i, .int .i64 q] w fun e w' => ∃ g, e = .returned (.slice (some ⟨g, 0, none⟩) 2 2) ∧ Own3 80 w' w.heap.size g 2 2 (pairL a c i q) ∧ Below w.heap.size w w' := by
  have A := hide (SLegs.own_pair w a c i q)
  go_enter Tryz.func50, Tryz.ntmps50
  go_wp2
  go_ret
  exact ⟨w.heap.size, rfl, unhide A, (Below.refl _ _).alloc (Nat.le_refl _) _⟩
def C7 (W : World) (p1 p2 p3 p4 p5 p6 p7 : Nat) (fx fy ff ft am nu de : Int) : Prop := W.cell? ⟨p1, 0, none⟩ = some (.int .i64 fx) ∧ W.cell? ⟨p2, 0, none⟩ = some (.int .i64 fy) ∧ W.cell? ⟨p3, 0, none⟩ = some (.int .i64 ff) ∧ W.cell? ⟨p4, 0, none⟩ = some (.int .i64 ft) ∧ W.cell? ⟨p5, 0, none⟩ = some (.int .i64 am) ∧ W.cell? ⟨p6, 0, none⟩ = some (.int .i64 nu) ∧ W.cell? ⟨p7, 0, none⟩ = some (.int .i64 de)
theorem C7.keep {base : Nat} {W W' : World} {p1 p2 p3 p4 p5 p6 p7 : Nat} {fx fy ff ft am nu de : Int} (h : C7 W p1 p2 p3 p4 p5 p6 p7 fx fy ff ft am nu de) (k : Keeps base W W') (l1 : p1 < base) (l2 : p2 < base) (l3 : p3 < base) (l4 : p4 < base) (l5 : p5 < base) (l6 : p6 < base) (l7 : p7 < base) : C7 W' p1 p2 p3 p4 p5 p6 p7 fx fy ff ft am nu de :=
  ⟨k _ l1 _ h.1, k _ l2 _ h.2.1, k _ l3 _ h.2.2.1, k _ l4 _ h.2.2.2.1, k _ l5 _ h.2.2.2.2.1, k _ l6 _ h.2.2.2.2.2.1, k _ l7 _ h.2.2.2.2.2.2⟩
theorem fx_done {b : Bk} {fx fy ff ft am nu de c q r : Int} (h : Desk b fx fy ff ft c) (hc : c ≠ 0) : IsFx b fx fy ff ft am nu de b 0 c := by
  rcases h with ⟨h, rfl⟩ | ⟨h, k, rfl⟩ | ⟨_, _, rfl⟩
  · exact .inl ⟨h, rfl, rfl, rfl⟩
  · exact .inr (.inl ⟨h, k, rfl, rfl, rfl⟩)
  · exact absurd rfl hc
set_option maxRecDepth 100000 in
set_option maxHeartbeats 16000000 in
theorem iClosure (u : World) (z : Bx) (base g : Nat) (p1 p2 p3 p4 p5 p6 p7 : Nat) (fx fy ff ft am nu de : Int) (hC : C7 u p1 p2 p3 p4 p5 p6 p7 fx fy ff ft am nu de) (l1 : p1 < base) (l2 : p2 < base) (l3 : p3 < base) (l4 : p4 < base) (l5 : p5 < base) (l6 : p6 < base) (l7 : p7 < base) (told : ToldF z.b fx fy ff ft am nu de) (V : Var u base g z) (O : Ow u (base + 4) z) (hg : g < base + 4) :
    Calls Tryz.prog 45 #[.pointer (some ⟨g, 0, none⟩), .pointer (some ⟨p1, 0, none⟩), .pointer (some ⟨p2, 0, none⟩), .pointer (some ⟨p3, 0, none⟩), .pointer (some ⟨p4, 0, none⟩), .pointer (some ⟨p5, 0, none⟩), .pointer (some ⟨p6, 0, none⟩), .pointer (some ⟨p7, 0, none⟩)] u (Does (DoneP (IsFx z.b fx fy ff ft am nu de) z.b) base g u) := by
  obtain ⟨q, r, ok, tl⟩ := tells_is am nu de
  have TL := hide tl
  obtain ⟨ok0, n1, n2, n3, n4, ⟨a1, a2⟩, ⟨m1, m2⟩, ⟨e1, e2⟩⟩ := told
  obtain ⟨q0, q1⟩ := tells_bd tl (by omega) (by omega) (by omega)
  have LF := hide (show Bals.Formed (pairL fx fy ff am ++ pairL fy fx ft q) from fx_formed n1 n2 n3 n4 (by omega) a2 q0 q1)
  have LE := hide (show Bals.Even (pairL fx fy ff am ++ pairL fy fx ft q) from legsF_even fx fy ff ft am q)
  have LI := hide ok0.1
  have SM := hide (ok_small ok0)
  have gb : base ≤ g := (Box.lt V).1
  have gl := (Box.lt V).2
  have D0 := hide (DW.start V O (ok_small ok0))
  have CC := hide hC
  have M1 := trivial
  have K4 : (u.cell? ⟨g, 0, none⟩ = some (.slice (some ⟨z.ga, 0, none⟩) z.b.ac.length z.ca) ∧ u.cell? ⟨g, 1, none⟩ = some (.slice (some ⟨z.gi, 0, none⟩) z.b.ic.length z.ci) ∧ u.cell? ⟨g, 2, none⟩ = some (.slice (some ⟨z.gb, 0, none⟩) z.b.bs.length z.cb) ∧ u.cell? ⟨g, 3, none⟩ = some (.slice (some ⟨z.gl, 0, none⟩) z.b.ls.length z.cl) ∧ u.cell? ⟨g, 4, none⟩ = some (.slice (some ⟨z.gt, 0, none⟩) z.b.ts.length z.ct) ∧ u.cell? ⟨g, 5, none⟩ = some (.int .i64 z.b.lot)) ∧ u.cell? ⟨p1, 0, none⟩ = some (.int .i64 fx) ∧ u.cell? ⟨p2, 0, none⟩ = some (.int .i64 fy) ∧ u.cell? ⟨p3, 0, none⟩ = some (.int .i64 ff) ∧ u.cell? ⟨p4, 0, none⟩ = some (.int .i64 ft) ∧ u.cell? ⟨p5, 0, none⟩ = some (.int .i64 am) ∧ u.cell? ⟨p6, 0, none⟩ = some (.int .i64 nu) ∧ u.cell? ⟨p7, 0, none⟩ = some (.int .i64 de) := ⟨⟨Box.c0 V, Box.c1 V, Box.c2 V, Box.c3 V, Box.c4 V, Box.c5 V⟩, hC⟩
  have RD := hide (DW.start V O (ok_small ok0)).r
  clear tl ok0 n1 n2 n3 n4 V O hC
  go_enter Tryz.func45, Tryz.ntmps45
  go_wp2_with fail
  go_region_held3 (fun w' => (w'.cell? ⟨g, 0, none⟩ = some (.slice (some ⟨z.ga, 0, none⟩) z.b.ac.length z.ca) ∧ w'.cell? ⟨g, 1, none⟩ = some (.slice (some ⟨z.gi, 0, none⟩) z.b.ic.length z.ci) ∧ w'.cell? ⟨g, 2, none⟩ = some (.slice (some ⟨z.gb, 0, none⟩) z.b.bs.length z.cb) ∧ w'.cell? ⟨g, 3, none⟩ = some (.slice (some ⟨z.gl, 0, none⟩) z.b.ls.length z.cl) ∧ w'.cell? ⟨g, 4, none⟩ = some (.slice (some ⟨z.gt, 0, none⟩) z.b.ts.length z.ct) ∧ w'.cell? ⟨g, 5, none⟩ = some (.int .i64 z.b.lot)) ∧ w'.cell? ⟨p1, 0, none⟩ = some (.int .i64 fx) ∧ w'.cell? ⟨p2, 0, none⟩ = some (.int .i64 fy) ∧ w'.cell? ⟨p3, 0, none⟩ = some (.int .i64 ff) ∧ w'.cell? ⟨p4, 0, none⟩ = some (.int .i64 ft) ∧ w'.cell? ⟨p5, 0, none⟩ = some (.int .i64 am) ∧ w'.cell? ⟨p6, 0, none⟩ = some (.int .i64 nu) ∧ w'.cell? ⟨p7, 0, none⟩ = some (.int .i64 de)) (first | exact K4 | exact K5)
    (first | (go_at_call 46; refine (iDesk u.drew z fx fy ff ft (show Rd u.drew z from (unhide D0).drew.r) (unhide LI)).mono ?_; rintro e u1 ⟨dc, rfl, hd, bb⟩; have HD := hide hd; have D1 := hide ((unhide D0).drew.step bb); have C1 := hide ((unhide CC).keep (Keeps.below (show Below u.heap.size u u1 from ILotsFit.below_of_drew bb) (by omega)) l1 l2 l3 l4 l5 l6 l7); have K5 : (u1.cell? ⟨g, 0, none⟩ = some (.slice (some ⟨z.ga, 0, none⟩) z.b.ac.length z.ca) ∧ u1.cell? ⟨g, 1, none⟩ = some (.slice (some ⟨z.gi, 0, none⟩) z.b.ic.length z.ci) ∧ u1.cell? ⟨g, 2, none⟩ = some (.slice (some ⟨z.gb, 0, none⟩) z.b.bs.length z.cb) ∧ u1.cell? ⟨g, 3, none⟩ = some (.slice (some ⟨z.gl, 0, none⟩) z.b.ls.length z.cl) ∧ u1.cell? ⟨g, 4, none⟩ = some (.slice (some ⟨z.gt, 0, none⟩) z.b.ts.length z.ct) ∧ u1.cell? ⟨g, 5, none⟩ = some (.int .i64 z.b.lot)) ∧ u1.cell? ⟨p1, 0, none⟩ = some (.int .i64 fx) ∧ u1.cell? ⟨p2, 0, none⟩ = some (.int .i64 fy) ∧ u1.cell? ⟨p3, 0, none⟩ = some (.int .i64 ff) ∧ u1.cell? ⟨p4, 0, none⟩ = some (.int .i64 ft) ∧ u1.cell? ⟨p5, 0, none⟩ = some (.int .i64 am) ∧ u1.cell? ⟨p6, 0, none⟩ = some (.int .i64 nu) ∧ u1.cell? ⟨p7, 0, none⟩ = some (.int .i64 de) := ⟨⟨(unhide D1).v.c0, (unhide D1).v.c1, (unhide D1).v.c2, (unhide D1).v.c3, (unhide D1).v.c4, (unhide D1).v.c5⟩, unhide C1⟩; clear hd bb))
  clear K4 K5 D0 CC RD
  have gl1 : g < u1.heap.size := (Box.lt (unhide D1).v).2
  by_cases z1 : dc = 0
  rotate_left
  · have z1b : (dc != 0) = true := ne_true z1
    have HN := hide z1
    clear z1
    go_wp2
    go_ret2
    exact ⟨z.b, 0, dc, .inr ⟨unhide HN, fx_done (q := 0) (r := 0) (unhide HD) (unhide HN)⟩, rfl, .inr ⟨unhide HN, Var.any (unhide D1).v⟩, (unhide D1).grown⟩
  have z1b : (dc != 0) = false := ne_false z1
  have HK := hide (show ¬ FxNone z.b fx fy ff ft ∧ ¬ FxKind z.b fx fy ff ft from by
    rcases unhide HD with ⟨_, k⟩ | ⟨_, _, k⟩ | ⟨p, k, _⟩
    · omega
    · omega
    · exact ⟨p, k⟩)
  clear z1 HD
  have c5 := (unhide C1).2.2.2.2.1
  have c6 := (unhide C1).2.2.2.2.2.1
  have c7 := (unhide C1).2.2.2.2.2.2
  go_wp2_with fail
  refine (MulC.iMD am nu de q r ok _ (by omega) a2 (by omega) m2 e1 e2 TL).mono ?_
  rintro e u2 ⟨rfl, gr⟩
  have D2 := hide ((unhide D1).step gr.below)
  have C2 := hide ((unhide C1).keep (Keeps.below (show Below u1.heap.size u1 u2 from gr.below) (by omega)) l1 l2 l3 l4 l5 l6 l7)
  clear gr c5 c6 c7 D1 C1
  cases ok
  · go_wp2
    go_ret2
    exact ⟨z.b, 0, 8, .inr ⟨by omega, .inr (.inr ⟨(unhide HK).1, (unhide HK).2, q, r, false, unhide TL, .inl ⟨rfl, rfl, rfl, rfl⟩⟩)⟩, rfl, .inr ⟨by omega, Var.any (unhide D2).v⟩, (unhide D2).grown⟩
  go_wp2_with fail
  have gl2 : g < u2.heap.size := (Box.lt (unhide D2).v).2
  have K4 : u2.cell? ⟨p1, 0, none⟩ = some (.int .i64 fx) ∧ u2.cell? ⟨p2, 0, none⟩ = some (.int .i64 fy) ∧ u2.cell? ⟨p3, 0, none⟩ = some (.int .i64 ff) ∧ u2.cell? ⟨p4, 0, none⟩ = some (.int .i64 ft) ∧ u2.cell? ⟨p5, 0, none⟩ = some (.int .i64 am) := ⟨(unhide C2).1, (unhide C2).2.1, (unhide C2).2.2.1, (unhide C2).2.2.2.1, (unhide C2).2.2.2.2.1⟩
  go_region_held3 (fun w' => w'.cell? ⟨p1, 0, none⟩ = some (.int .i64 fx) ∧ w'.cell? ⟨p2, 0, none⟩ = some (.int .i64 fy) ∧ w'.cell? ⟨p3, 0, none⟩ = some (.int .i64 ff) ∧ w'.cell? ⟨p4, 0, none⟩ = some (.int .i64 ft) ∧ w'.cell? ⟨p5, 0, none⟩ = some (.int .i64 am)) (first | exact K4 | exact K5 | exact K6 | exact K7 | exact K8 | exact K9)
    (first | (go_at_call 50; clear M1; refine (iGivenO u2.drew fx fy ff am (by omega) a2).mono ?_; rintro e v1 ⟨g1, rfl, o1, bb⟩; have bW := hide (show Below u2.heap.size u2 v1 from ILotsFit.below_of_drew bb); have C3 := hide ((unhide C2).keep (Keeps.below (unhide bW) (by omega)) l1 l2 l3 l4 l5 l6 l7); have K5 : v1.cell? ⟨p1, 0, none⟩ = some (.int .i64 fx) ∧ v1.cell? ⟨p2, 0, none⟩ = some (.int .i64 fy) ∧ v1.cell? ⟨p3, 0, none⟩ = some (.int .i64 ff) ∧ v1.cell? ⟨p4, 0, none⟩ = some (.int .i64 ft) ∧ v1.cell? ⟨p5, 0, none⟩ = some (.int .i64 am) := ⟨(unhide C3).1, (unhide C3).2.1, (unhide C3).2.2.1, (unhide C3).2.2.2.1, (unhide C3).2.2.2.2.1⟩; have O1 := hide (show Own3 80 v1 u2.heap.size g1 2 2 (pairL fx fy ff am) from o1); have z1 := (unhide bW).size; clear bb o1) | (go_at_call 50; refine (iGivenO v1 fy fx ft q q0 q1).mono ?_; rintro e v2 ⟨g2, rfl, o2, bb2⟩; have bX := hide ((unhide bW).trans (bb2.mono z1)); have C4 := hide ((unhide C2).keep (Keeps.below (unhide bX) (by omega)) l1 l2 l3 l4 l5 l6 l7); have K6 : v2.cell? ⟨p1, 0, none⟩ = some (.int .i64 fx) ∧ v2.cell? ⟨p2, 0, none⟩ = some (.int .i64 fy) ∧ v2.cell? ⟨p3, 0, none⟩ = some (.int .i64 ff) ∧ v2.cell? ⟨p4, 0, none⟩ = some (.int .i64 ft) ∧ v2.cell? ⟨p5, 0, none⟩ = some (.int .i64 am) := ⟨(unhide C4).1, (unhide C4).2.1, (unhide C4).2.2.1, (unhide C4).2.2.2.1, (unhide C4).2.2.2.2.1⟩; have C5 := hide ((unhide C4).keep (Keeps.below (one_more v2 (.cells #[.slice (some ⟨g1, 0, none⟩) 2 2, .slice (some ⟨g2, 0, none⟩) 2 2] 66)) (by have := bb2.size; omega)) l1 l2 l3 l4 l5 l6 l7); have K7 : (v2.alloc (.cells #[.slice (some ⟨g1, 0, none⟩) 2 2, .slice (some ⟨g2, 0, none⟩) 2 2] 66)).cell? ⟨p1, 0, none⟩ = some (.int .i64 fx) ∧ (v2.alloc (.cells #[.slice (some ⟨g1, 0, none⟩) 2 2, .slice (some ⟨g2, 0, none⟩) 2 2] 66)).cell? ⟨p2, 0, none⟩ = some (.int .i64 fy) ∧ (v2.alloc (.cells #[.slice (some ⟨g1, 0, none⟩) 2 2, .slice (some ⟨g2, 0, none⟩) 2 2] 66)).cell? ⟨p3, 0, none⟩ = some (.int .i64 ff) ∧ (v2.alloc (.cells #[.slice (some ⟨g1, 0, none⟩) 2 2, .slice (some ⟨g2, 0, none⟩) 2 2] 66)).cell? ⟨p4, 0, none⟩ = some (.int .i64 ft) ∧ (v2.alloc (.cells #[.slice (some ⟨g1, 0, none⟩) 2 2, .slice (some ⟨g2, 0, none⟩) 2 2] 66)).cell? ⟨p5, 0, none⟩ = some (.int .i64 am) := ⟨(unhide C5).1, (unhide C5).2.1, (unhide C5).2.2.1, (unhide C5).2.2.2.1, (unhide C5).2.2.2.2.1⟩; have O2 := hide o2; have O3 := hide ((unhide O1).below bb2 (unhide O1).lt.2); have z2 := bb2.size; clear bb2 o2) | (go_at_call 49; refine (Concat3.iConcat _ v2.heap.size g1 2 2 g2 2 2 (pairL fx fy ff am) (pairL fy fx ft q) rfl rfl (by omega) (by omega) (by simp) (by have := (unhide O3).lt.2; simp; omega) (by have := (unhide O2).lt.2; simp; omega) ((unhide O3).alloc _).at ((unhide O2).alloc _).at (by simp) (by simp)).mono ?_; rintro e v3 ⟨g3, c3, rfl, o3, bb3⟩; have bY := hide (Below.trans ((unhide bX).alloc (unhide bX).size _) (bb3.mono (by simp; omega))); have C6 := hide ((unhide C2).keep (Keeps.below (unhide bY) (by omega)) l1 l2 l3 l4 l5 l6 l7); have K8 : v3.cell? ⟨p1, 0, none⟩ = some (.int .i64 fx) ∧ v3.cell? ⟨p2, 0, none⟩ = some (.int .i64 fy) ∧ v3.cell? ⟨p3, 0, none⟩ = some (.int .i64 ff) ∧ v3.cell? ⟨p4, 0, none⟩ = some (.int .i64 ft) ∧ v3.cell? ⟨p5, 0, none⟩ = some (.int .i64 am) := ⟨(unhide C6).1, (unhide C6).2.1, (unhide C6).2.2.1, (unhide C6).2.2.2.1, (unhide C6).2.2.2.2.1⟩; have O4 := hide o3; have D3 := hide ((unhide D2).step (unhide bY)); have z3 := (unhide bY).size; clear bb3 o3) | (go_at_call 48; refine (IPostB.iPost v3 z base g g3 c3 (pairL fx fy ff am ++ pairL fy fx ft q) (unhide LI) (unhide SM) (unhide D3).v (unhide D3).o hg (show 4 ≤ 1048576 by omega) (unhide O4).lt.2 (unhide O4).at (unhide LF) (unhide LE)).mono ?_; rintro e v4 ⟨y, pc, hpo, rfl, vy, oy, gr⟩; have C7' := hide ((unhide C6).keep (Keeps.grown gr gb) l1 l2 l3 l4 l5 l6 l7); have K9 : v4.cell? ⟨p1, 0, none⟩ = some (.int .i64 fx) ∧ v4.cell? ⟨p2, 0, none⟩ = some (.int .i64 fy) ∧ v4.cell? ⟨p3, 0, none⟩ = some (.int .i64 ff) ∧ v4.cell? ⟨p4, 0, none⟩ = some (.int .i64 ft) ∧ v4.cell? ⟨p5, 0, none⟩ = some (.int .i64 am) := ⟨(unhide C7').1, (unhide C7').2.1, (unhide C7').2.2.1, (unhide C7').2.2.2.1, (unhide C7').2.2.2.2.1⟩; have G4 := hide (Pairs.grown_trans (unhide D3).grown gr); have HP := hide hpo; have VY := hide vy; have OY := hide oy; clear hpo vy oy gr))
  go_wp2
  go_ret2
  by_cases z1' : pc = 0
  · subst z1'
    exact ⟨y.b, q, 0, .inl ⟨rfl, .inr (.inr ⟨(unhide HK).1, (unhide HK).2, q, r, true, unhide TL, .inr ⟨rfl, y.b, 0, unhide HP, .inr ⟨rfl, rfl, rfl, rfl⟩⟩⟩)⟩, rfl, .inl ⟨rfl, y, rfl, unhide VY, unhide OY⟩, unhide G4⟩
  · exact ⟨y.b, q, pc, .inr ⟨z1', .inr (.inr ⟨(unhide HK).1, (unhide HK).2, q, r, true, unhide TL, .inr ⟨rfl, y.b, pc, unhide HP, .inl ⟨z1', rfl, rfl, rfl⟩⟩⟩)⟩, rfl, .inr ⟨z1', Var.any (unhide VY)⟩, unhide G4⟩
end Go.Proofs.YtnmeiiaipacplaaGreat.FxI
namespace Go.Proofs.YtnmeiiaipacplaaGreat.ITakeBk
open Go.ChangeShapes Go.WideShapes Go.ChangeAt Go.RowKit BMem Bks ILists BHelp Ans ICopied ICmdB IHave SBk
open IBalsFit (one_more all_one)
open Lots (Says says_of NoOk)
open Bals (T3)
open Tup5 (T5)
open Concat5 (OwnV)
open ILotsFit (below_of_drew)
structure OwL (w : World) (base : Nat) (x : Bx) (v : Value) : Prop where
  oa : Pairs.Own 92 w base x.ga x.b.ac.length x.ca x.b.ac
  oi : Pairs.Own 111 w base x.gi x.b.ic.length x.ci x.b.ic
  ob : Triples.Own3 119 w base x.gb x.b.bs.length x.cb x.b.bs
  ol : OwnV 123 w base v x.b.ls
  ot : Tup8.Own8 110 w base x.gt x.b.ts.length x.ct x.b.ts
theorem OwL.of {w : World} {base : Nat} {x : Bx} (h : Ow w base x) : OwL w base x (.slice (some ⟨x.gl, 0, none⟩) x.b.ls.length x.cl) := ⟨h.oa, h.oi, h.ob, Concat5.OwnV.of h.ol, h.ot⟩
theorem OwL.below {w w' : World} {base B : Nat} {x : Bx} {v : Value} (h : OwL w base x v) (k : Below B w w') (hB : w.heap.size ≤ B) : OwL w' base x v :=
  ⟨h.oa.below k (by have := h.oa.lt; omega), h.oi.below k (by have := h.oi.lt; omega), h.ob.below k (by have := h.ob.lt; omega), h.ol.below k (fun g hg => by have := h.ol.lt g hg; omega), h.ot.below k (by have := h.ot.lt; omega)⟩
def VarL (w : World) (base g : Nat) (x : Bx) (v : Value) : Prop := Box w base g (.slice (some ⟨x.ga, 0, none⟩) x.b.ac.length x.ca) (.slice (some ⟨x.gi, 0, none⟩) x.b.ic.length x.ci) (.slice (some ⟨x.gb, 0, none⟩) x.b.bs.length x.cb) v (.slice (some ⟨x.gt, 0, none⟩) x.b.ts.length x.ct) (.int .i64 x.b.lot)
theorem VarL.any {w : World} {base g : Nat} {x : Bx} {ao : Option Addr} {n k : Nat} (h : VarL w base g x (.slice ao n k)) : AnyBox w base g := ⟨_, _, _, _, _, _, _, _, _, _, _, _, _, _, _, _, h⟩
end Go.Proofs.YtnmeiiaipacplaaGreat.ITakeBk
namespace Go.Proofs.YtnmeiiaipacplaaGreat.IssueTellI
open Go.ChangeShapes Go.WideShapes Go.ChangeAt Go.RowKit BMem Bks ILists BHelp Ans ICopied ICmdB IHave
open SIssue (six_alloc ow_six_alloc box_six_alloc to_wb off_box)
open IBalsFit (one_more all_one)
open ITrade (at_new)
open Lots (Says says_of NoOk)
theorem says_and {a b : Bool} {p q : Prop} (h : Says a p) (k : Says b q) : Says (a && b) (p ∧ q) := by
  cases a <;> cases b
  · exact ⟨fun e => Bool.noConfusion e, fun r => absurd r.1 h.no⟩
  · exact ⟨fun e => Bool.noConfusion e, fun r => absurd r.1 h.no⟩
  · exact ⟨fun e => Bool.noConfusion e, fun r => absurd r.2 k.no⟩
  · exact ⟨fun _ => ⟨h.yes, k.yes⟩, fun _ => rfl⟩
structure TW (w W : World) (x : Bx) (fa fb fi fq fk : Int) : Prop where
  r : Rd W x
  c : Cl W w.heap.size x
  n1 : W.cell? ⟨w.heap.size + 1, 0, none⟩ = some (.int .i64 fa)
  n2 : W.cell? ⟨w.heap.size + 1 + 1, 0, none⟩ = some (.int .i64 fb)
  n3 : W.cell? ⟨w.heap.size + 1 + 1 + 1, 0, none⟩ = some (.int .i64 fi)
  n4 : W.cell? ⟨w.heap.size + 1 + 1 + 1 + 1, 0, none⟩ = some (.int .i64 fq)
  n5 : W.cell? ⟨w.heap.size + 1 + 1 + 1 + 1 + 1, 0, none⟩ = some (.int .i64 fk)
  v : Box W w.heap.size (w.heap.size + 1 + 1 + 1 + 1 + 1 + 1) (.slice none 0 0) (.slice none 0 0) (.slice none 0 0) (.slice none 0 0) (.slice none 0 0) (.int .i64 0)
  b : Below w.heap.size w W
theorem TW.step {w W W' : World} {x : Bx} {fa fb fi fq fk : Int} (h : TW w W x fa fb fi fq fk) (k : Below W.heap.size W W') : TW w W' x fa fb fi fq fk := by
  have l := h.v.lt
  exact ⟨h.r.below k, h.c.below k (by omega), (k.cell (p := ⟨w.heap.size + 1, 0, none⟩) (by simp <;> omega)).trans h.n1, (k.cell (p := ⟨w.heap.size + 1 + 1, 0, none⟩) (by simp <;> omega)).trans h.n2, (k.cell (p := ⟨w.heap.size + 1 + 1 + 1, 0, none⟩) (by simp <;> omega)).trans h.n3, (k.cell (p := ⟨w.heap.size + 1 + 1 + 1 + 1, 0, none⟩) (by simp <;> omega)).trans h.n4, (k.cell (p := ⟨w.heap.size + 1 + 1 + 1 + 1 + 1, 0, none⟩) (by simp <;> omega)).trans h.n5, h.v.below k (by omega), h.b.trans (k.mono h.b.size)⟩
theorem more {w : World} {p : Addr} {v : Value} (h : w.cell? p = some v) (hp : p.block < w.heap.size) (o : Obj) : (w.alloc o).cell? p = some v := ((one_more _ _).cell hp).trans h
theorem TW.start {w : World} {x : Bx} {fa fb fi fq fk : Int} (h : Rd w x) : TW w (((((((w.alloc (.cells #[.slice (some ⟨x.ga, 0, none⟩) x.b.ac.length x.ca, .slice (some ⟨x.gi, 0, none⟩) x.b.ic.length x.ci, .slice (some ⟨x.gb, 0, none⟩) x.b.bs.length x.cb, .slice (some ⟨x.gl, 0, none⟩) x.b.ls.length x.cl, .slice (some ⟨x.gt, 0, none⟩) x.b.ts.length x.ct, .int .i64 x.b.lot] 36)).alloc (.cells #[.int .i64 fa] 3)).alloc (.cells #[.int .i64 fb] 3)).alloc (.cells #[.int .i64 fi] 3)).alloc (.cells #[.int .i64 fq] 3)).alloc (.cells #[.int .i64 fk] 3)).alloc (.cells #[.slice none 0 0, .slice none 0 0, .slice none 0 0, .slice none 0 0, .slice none 0 0, .int .i64 0] 36)) x fa fb fi fq fk := by
  have b : Below (w.heap.size + 1) (w.alloc (.cells #[.slice (some ⟨x.ga, 0, none⟩) x.b.ac.length x.ca, .slice (some ⟨x.gi, 0, none⟩) x.b.ic.length x.ci, .slice (some ⟨x.gb, 0, none⟩) x.b.bs.length x.cb, .slice (some ⟨x.gl, 0, none⟩) x.b.ls.length x.cl, .slice (some ⟨x.gt, 0, none⟩) x.b.ts.length x.ct, .int .i64 x.b.lot] 36)) (((((((w.alloc (.cells #[.slice (some ⟨x.ga, 0, none⟩) x.b.ac.length x.ca, .slice (some ⟨x.gi, 0, none⟩) x.b.ic.length x.ci, .slice (some ⟨x.gb, 0, none⟩) x.b.bs.length x.cb, .slice (some ⟨x.gl, 0, none⟩) x.b.ls.length x.cl, .slice (some ⟨x.gt, 0, none⟩) x.b.ts.length x.ct, .int .i64 x.b.lot] 36)).alloc (.cells #[.int .i64 fa] 3)).alloc (.cells #[.int .i64 fb] 3)).alloc (.cells #[.int .i64 fi] 3)).alloc (.cells #[.int .i64 fq] 3)).alloc (.cells #[.int .i64 fk] 3)).alloc (.cells #[.slice none 0 0, .slice none 0 0, .slice none 0 0, .slice none 0 0, .slice none 0 0, .int .i64 0] 36)) :=
    ((((((Below.refl _ _).alloc (by simp) _).alloc (by simp) _).alloc (by simp <;> omega) _).alloc (by simp <;> omega) _).alloc (by simp <;> omega) _).alloc (by simp <;> omega) _
  refine ⟨h.below (((Below.refl w.heap.size w).alloc (Nat.le_refl _) _).trans (b.mono (by omega))), (boxed w x 36).below b (by omega), ?_, ?_, ?_, ?_, ?_, Box.made _ _ _ _ _ _ (by simp <;> omega) (by simp), ((Below.refl w.heap.size w).alloc (Nat.le_refl _) _).trans (b.mono (by omega))⟩
  · exact more (more (more (more (more (cell_new _ _ _ (by simp)) (by simp) _) (by simp <;> omega) _) (by simp <;> omega) _) (by simp <;> omega) _) (by simp <;> omega) _
  · exact more (more (more (more (cell_new _ _ _ (by simp)) (by simp) _) (by simp <;> omega) _) (by simp <;> omega) _) (by simp <;> omega) _
  · exact more (more (more (cell_new _ _ _ (by simp)) (by simp) _) (by simp <;> omega) _) (by simp <;> omega) _
  · exact more (more (cell_new _ _ _ (by simp)) (by simp) _) (by simp <;> omega) _
  · exact more (cell_new _ _ _ (by simp)) (by simp) _
end Go.Proofs.YtnmeiiaipacplaaGreat.IssueTellI
namespace Go.Proofs.YtnmeiiaipacplaaGreat.FxTellI
open Go.ChangeShapes Go.WideShapes Go.ChangeAt Go.RowKit BMem Bks ILists BHelp Ans ICopied ICmdB IHave ICmdF
open SIssue (six_alloc ow_six_alloc box_six_alloc to_wb off_box)
open IssueTellI (says_and more)
open IBalsFit (one_more all_one)
open ITrade (at_new)
open Lots (Says says_of NoOk)
open SMove (AnsM)
open Corp (IsFx)
open SFx (ToldF)
structure TW (w W : World) (x : Bx) (fx fy ff ft am nu de : Int) : Prop where
  r : Rd W x
  c : Cl W w.heap.size x
  n1 : W.cell? ⟨w.heap.size + 1, 0, none⟩ = some (.int .i64 fx)
  n2 : W.cell? ⟨w.heap.size + 1 + 1, 0, none⟩ = some (.int .i64 fy)
  n3 : W.cell? ⟨w.heap.size + 1 + 1 + 1, 0, none⟩ = some (.int .i64 ff)
  n4 : W.cell? ⟨w.heap.size + 1 + 1 + 1 + 1, 0, none⟩ = some (.int .i64 ft)
  n5 : W.cell? ⟨w.heap.size + 1 + 1 + 1 + 1 + 1, 0, none⟩ = some (.int .i64 am)
  n6 : W.cell? ⟨w.heap.size + 1 + 1 + 1 + 1 + 1 + 1, 0, none⟩ = some (.int .i64 nu)
  n7 : W.cell? ⟨w.heap.size + 1 + 1 + 1 + 1 + 1 + 1 + 1, 0, none⟩ = some (.int .i64 de)
  v : Box W w.heap.size (w.heap.size + 1 + 1 + 1 + 1 + 1 + 1 + 1 + 1) (.slice none 0 0) (.slice none 0 0) (.slice none 0 0) (.slice none 0 0) (.slice none 0 0) (.int .i64 0)
  b : Below w.heap.size w W
theorem TW.step {w W W' : World} {x : Bx} {fx fy ff ft am nu de : Int} (h : TW w W x fx fy ff ft am nu de) (k : Below W.heap.size W W') : TW w W' x fx fy ff ft am nu de := by
  have l := h.v.lt
  exact ⟨h.r.below k, h.c.below k (by omega), (k.cell (p := ⟨w.heap.size + 1, 0, none⟩) (by simp <;> omega)).trans h.n1, (k.cell (p := ⟨w.heap.size + 1 + 1, 0, none⟩) (by simp <;> omega)).trans h.n2, (k.cell (p := ⟨w.heap.size + 1 + 1 + 1, 0, none⟩) (by simp <;> omega)).trans h.n3, (k.cell (p := ⟨w.heap.size + 1 + 1 + 1 + 1, 0, none⟩) (by simp <;> omega)).trans h.n4, (k.cell (p := ⟨w.heap.size + 1 + 1 + 1 + 1 + 1, 0, none⟩) (by simp <;> omega)).trans h.n5, (k.cell (p := ⟨w.heap.size + 1 + 1 + 1 + 1 + 1 + 1, 0, none⟩) (by simp <;> omega)).trans h.n6, (k.cell (p := ⟨w.heap.size + 1 + 1 + 1 + 1 + 1 + 1 + 1, 0, none⟩) (by simp <;> omega)).trans h.n7, h.v.below k (by omega), h.b.trans (k.mono h.b.size)⟩
theorem TW.start {w : World} {x : Bx} {fx fy ff ft am nu de : Int} (h : Rd w x) : TW w (((((((((w.alloc (.cells #[.slice (some ⟨x.ga, 0, none⟩) x.b.ac.length x.ca, .slice (some ⟨x.gi, 0, none⟩) x.b.ic.length x.ci, .slice (some ⟨x.gb, 0, none⟩) x.b.bs.length x.cb, .slice (some ⟨x.gl, 0, none⟩) x.b.ls.length x.cl, .slice (some ⟨x.gt, 0, none⟩) x.b.ts.length x.ct, .int .i64 x.b.lot] 36)).alloc (.cells #[.int .i64 fx] 3)).alloc (.cells #[.int .i64 fy] 3)).alloc (.cells #[.int .i64 ff] 3)).alloc (.cells #[.int .i64 ft] 3)).alloc (.cells #[.int .i64 am] 3)).alloc (.cells #[.int .i64 nu] 3)).alloc (.cells #[.int .i64 de] 3)).alloc (.cells #[.slice none 0 0, .slice none 0 0, .slice none 0 0, .slice none 0 0, .slice none 0 0, .int .i64 0] 36)) x fx fy ff ft am nu de := by
  have b : Below (w.heap.size + 1) (w.alloc (.cells #[.slice (some ⟨x.ga, 0, none⟩) x.b.ac.length x.ca, .slice (some ⟨x.gi, 0, none⟩) x.b.ic.length x.ci, .slice (some ⟨x.gb, 0, none⟩) x.b.bs.length x.cb, .slice (some ⟨x.gl, 0, none⟩) x.b.ls.length x.cl, .slice (some ⟨x.gt, 0, none⟩) x.b.ts.length x.ct, .int .i64 x.b.lot] 36)) (((((((((w.alloc (.cells #[.slice (some ⟨x.ga, 0, none⟩) x.b.ac.length x.ca, .slice (some ⟨x.gi, 0, none⟩) x.b.ic.length x.ci, .slice (some ⟨x.gb, 0, none⟩) x.b.bs.length x.cb, .slice (some ⟨x.gl, 0, none⟩) x.b.ls.length x.cl, .slice (some ⟨x.gt, 0, none⟩) x.b.ts.length x.ct, .int .i64 x.b.lot] 36)).alloc (.cells #[.int .i64 fx] 3)).alloc (.cells #[.int .i64 fy] 3)).alloc (.cells #[.int .i64 ff] 3)).alloc (.cells #[.int .i64 ft] 3)).alloc (.cells #[.int .i64 am] 3)).alloc (.cells #[.int .i64 nu] 3)).alloc (.cells #[.int .i64 de] 3)).alloc (.cells #[.slice none 0 0, .slice none 0 0, .slice none 0 0, .slice none 0 0, .slice none 0 0, .int .i64 0] 36)) :=
    ((((((((Below.refl _ _).alloc (by simp) _).alloc (by simp <;> omega) _).alloc (by simp <;> omega) _).alloc (by simp <;> omega) _).alloc (by simp <;> omega) _).alloc (by simp <;> omega) _).alloc (by simp <;> omega) _).alloc (by simp <;> omega) _
  refine ⟨h.below (((Below.refl w.heap.size w).alloc (Nat.le_refl _) _).trans (b.mono (by omega))), (boxed w x 36).below b (by omega), ?_, ?_, ?_, ?_, ?_, ?_, ?_, Box.made _ _ _ _ _ _ (by simp <;> omega) (by simp), ((Below.refl w.heap.size w).alloc (Nat.le_refl _) _).trans (b.mono (by omega))⟩
  · exact more (more (more (more (more (more (more (cell_new _ _ _ (by simp)) (by simp) _) (by simp <;> omega) _) (by simp <;> omega) _) (by simp <;> omega) _) (by simp <;> omega) _) (by simp <;> omega) _) (by simp <;> omega) _
  · exact more (more (more (more (more (more (cell_new _ _ _ (by simp)) (by simp) _) (by simp <;> omega) _) (by simp <;> omega) _) (by simp <;> omega) _) (by simp <;> omega) _) (by simp <;> omega) _
  · exact more (more (more (more (more (cell_new _ _ _ (by simp)) (by simp) _) (by simp <;> omega) _) (by simp <;> omega) _) (by simp <;> omega) _) (by simp <;> omega) _
  · exact more (more (more (more (cell_new _ _ _ (by simp)) (by simp) _) (by simp <;> omega) _) (by simp <;> omega) _) (by simp <;> omega) _
  · exact more (more (more (cell_new _ _ _ (by simp)) (by simp) _) (by simp <;> omega) _) (by simp <;> omega) _
  · exact more (more (cell_new _ _ _ (by simp)) (by simp) _) (by simp <;> omega) _
  · exact more (cell_new _ _ _ (by simp)) (by simp) _
set_option maxRecDepth 100000 in
set_option maxHeartbeats 8000000 in
theorem iTell (w : World) (x : Bx) (fx fy ff ft am nu de : Int) (h : Rd w x) :
    Calls Tryz.prog 10 #[.agg #[.slice (some ⟨x.ga, 0, none⟩) x.b.ac.length x.ca, .slice (some ⟨x.gi, 0, none⟩) x.b.ic.length x.ci, .slice (some ⟨x.gb, 0, none⟩) x.b.bs.length x.cb, .slice (some ⟨x.gl, 0, none⟩) x.b.ls.length x.cl, .slice (some ⟨x.gt, 0, none⟩) x.b.ts.length x.ct, .int .i64 x.b.lot], .int .i64 fx, .int .i64 fy, .int .i64 ff, .int .i64 ft, .int .i64 am, .int .i64 nu, .int .i64 de] w (AnsM (ToldF x.b fx fy ff ft am nu de) (IsFx x.b fx fy ff ft am nu de) w) := by
  obtain ⟨b1, h1⟩ := says_of (∀ y ∈ [fx, fy, ff, ft], NoOk y)
  obtain ⟨b2, h2⟩ := says_of (1 ≤ am ∧ am ≤ 1000000000000000)
  obtain ⟨b3, h3⟩ := says_of (1 ≤ nu ∧ nu ≤ 1000000000000000)
  obtain ⟨b4, h4⟩ := says_of (1 ≤ de ∧ de ≤ 1000000000000000)
  have HT := hide (show Says (b1 && (b2 && (b3 && (b4)))) (NoOk fx ∧ NoOk fy ∧ NoOk ff ∧ NoOk ft ∧ (1 ≤ am ∧ am ≤ 1000000000000000) ∧ (1 ≤ nu ∧ nu ≤ 1000000000000000) ∧ (1 ≤ de ∧ de ≤ 1000000000000000)) from by
    have a := says_and h1 (says_and h2 (says_and h3 (h4)))
    refine ⟨fun e => ?_, fun r => a.of ⟨?_, r.2.2.2.2.1, r.2.2.2.2.2.1, r.2.2.2.2.2.2⟩⟩
    · have := a.1 e
      exact ⟨this.1 fx (by simp), this.1 fy (by simp), this.1 ff (by simp), this.1 ft (by simp), this.2.1, this.2.2.1, this.2.2.2⟩
    · intro y hy
      simp only [List.mem_cons, List.not_mem_nil, or_false] at hy
      rcases hy with rfl | rfl | rfl | rfl
      · exact r.1
      · exact r.2.1
      · exact r.2.2.1
      · exact r.2.2.2.1)
  have H1 := hide h1
  have H2 := hide h2
  have H3 := hide h3
  have H4 := hide h4
  have S0 := hide (TW.start (fx := fx) (fy := fy) (ff := ff) (ft := ft) (am := am) (nu := nu) (de := de) h)
  clear h1 h2 h3 h4 h
  go_enter Tryz.func10, Tryz.ntmps10
  go_wp2_with fail
  have S1 := hide ((unhide S0).step (one_more _ (.cells #[.int .i64 fx, .int .i64 fy, .int .i64 ff, .int .i64 ft] 3)))
  refine (iNumbers _ (w.heap.size + 1 + 1 + 1 + 1 + 1 + 1 + 1 + 1 + 1) 4 4 [fx, fy, ff, ft] b1 rfl (by omega) (by simp) (at_new _ [fx, fy, ff, ft] _ (by simp) rfl) (unhide H1)).mono ?_
  rintro e w2 ⟨rfl, bb⟩
  have S2 := hide ((unhide S1).step bb)
  clear bb S1 S0
  obtain ⟨c0, c1, c2, c3, c4, c5⟩ := (unhide S2).c
  have m1 := (unhide S2).n1
  have m2 := (unhide S2).n2
  have m3 := (unhide S2).n3
  have m4 := (unhide S2).n4
  have m5 := (unhide S2).n5
  have m6 := (unhide S2).n6
  have m7 := (unhide S2).n7
  have hmf : ∀ (fn : Fn) (first cp : Array Value) (w : World), (Instr.makeFunc fn first cp).run Tryz.prog w = .ok (.func fn first cp) w := fun _ _ _ _ => rfl
  have HF := hide (show Ok x.b → (NoOk fx ∧ NoOk fy ∧ NoOk ff ∧ NoOk ft ∧ (1 ≤ am ∧ am ≤ 1000000000000000) ∧ (1 ≤ nu ∧ nu ≤ 1000000000000000) ∧ (1 ≤ de ∧ de ≤ 1000000000000000)) → ∀ (u : World) (z : Bx), z.b = x.b → Var u w2.heap.size (w2.heap.size + 1) z → Ow u (w2.heap.size + 4) z → Below w2.heap.size w2 u → Calls Tryz.prog 45 (#[.pointer (some ⟨w2.heap.size + 1, 0, none⟩)] ++ #[.pointer (some ⟨w.heap.size + 1, 0, none⟩), .pointer (some ⟨w.heap.size + 1 + 1, 0, none⟩), .pointer (some ⟨w.heap.size + 1 + 1 + 1, 0, none⟩), .pointer (some ⟨w.heap.size + 1 + 1 + 1 + 1, 0, none⟩), .pointer (some ⟨w.heap.size + 1 + 1 + 1 + 1 + 1, 0, none⟩), .pointer (some ⟨w.heap.size + 1 + 1 + 1 + 1 + 1 + 1, 0, none⟩), .pointer (some ⟨w.heap.size + 1 + 1 + 1 + 1 + 1 + 1 + 1, 0, none⟩)]) u (Does (FxI.DoneP (IsFx x.b fx fy ff ft am nu de) x.b) w2.heap.size (w2.heap.size + 1) u) from by
    intro ok ta u z hz V O bb
    have l := (unhide S2).v.lt
    have q := FxI.iClosure u z w2.heap.size (w2.heap.size + 1) (w.heap.size + 1) (w.heap.size + 1 + 1) (w.heap.size + 1 + 1 + 1) (w.heap.size + 1 + 1 + 1 + 1) (w.heap.size + 1 + 1 + 1 + 1 + 1) (w.heap.size + 1 + 1 + 1 + 1 + 1 + 1) (w.heap.size + 1 + 1 + 1 + 1 + 1 + 1 + 1) fx fy ff ft am nu de ⟨(bb.cell (p := ⟨w.heap.size + 1, 0, none⟩) (by simp <;> omega)).trans m1, (bb.cell (p := ⟨w.heap.size + 1 + 1, 0, none⟩) (by simp <;> omega)).trans m2, (bb.cell (p := ⟨w.heap.size + 1 + 1 + 1, 0, none⟩) (by simp <;> omega)).trans m3, (bb.cell (p := ⟨w.heap.size + 1 + 1 + 1 + 1, 0, none⟩) (by simp <;> omega)).trans m4, (bb.cell (p := ⟨w.heap.size + 1 + 1 + 1 + 1 + 1, 0, none⟩) (by simp <;> omega)).trans m5, (bb.cell (p := ⟨w.heap.size + 1 + 1 + 1 + 1 + 1 + 1, 0, none⟩) (by simp <;> omega)).trans m6, (bb.cell (p := ⟨w.heap.size + 1 + 1 + 1 + 1 + 1 + 1 + 1, 0, none⟩) (by simp <;> omega)).trans m7⟩ (by omega) (by omega) (by omega) (by omega) (by omega) (by omega) (by omega) (by rw [hz]; exact ⟨ok, ta⟩) V O (by omega)
    rw [hz] at q
    exact q)
  cases b1
  rotate_left
  go_wp2_with fail
  refine (IHave.iFrom 1 am b2 _ (unhide H2)).mono ?_
  rintro e v1 ⟨rfl, hv⟩
  rw [hv]
  clear hv
  cases b2
  rotate_left
  go_wp2_with fail
  refine (IHave.iFrom 1 nu b3 _ (unhide H3)).mono ?_
  rintro e v2 ⟨rfl, hv⟩
  rw [hv]
  clear hv
  cases b3
  rotate_left
  go_wp2_with fail
  refine (IHave.iFrom 1 de b4 _ (unhide H4)).mono ?_
  rintro e v3 ⟨rfl, hv⟩
  rw [hv]
  clear hv
  cases b4
  all_goals
    (clear H1 H2 H3 H4
     go_wp2_with fail
     refine (ICmd.iCmd _ x _ (NoOk fx ∧ NoOk fy ∧ NoOk ff ∧ NoOk ft ∧ (1 ≤ am ∧ am ≤ 1000000000000000) ∧ (1 ≤ nu ∧ nu ≤ 1000000000000000) ∧ (1 ≤ de ∧ de ≤ 1000000000000000)) 45 _ (FxI.DoneP (IsFx x.b fx fy ff ft am nu de) x.b) (unhide S2).r (unhide HT) (fun _ _ => rfl) (unhide HF)).mono ?_
     clear HF HT
     intro e w3 hA
     obtain ⟨a0, a1, a2, a3, a4, n0, n1, n2, n3, n4, k0, k1, k2, k3, k4, l, t, c, rfl, fin, bb⟩ := fin_of hA
     have S3 := hide ((unhide S2).step bb)
     have FN := hide fin
     have lw : w.heap.size + 1 + 1 + 1 + 1 + 1 + 1 + 1 + 1 < w2.heap.size := (unhide S2).v.lt.2
     have lw3 : w.heap.size + 1 + 1 + 1 + 1 + 1 + 1 + 1 + 1 < w3.heap.size := (unhide S3).v.lt.2
     have lw4 : w.heap.size + 1 + 1 + 1 + 1 + 1 + 1 + 1 + 1 ≠ w3.heap.size := by omega
     clear hA fin bb c0 c1 c2 c3 c4 c5 m1 m2 m3 m4 m5 m6 m7
     have r0 := (unhide S3).v.c0
     have r1 := (unhide S3).v.c1
     have r2 := (unhide S3).v.c2
     have r3 := (unhide S3).v.c3
     have r4 := (unhide S3).v.c4
     have r5 := (unhide S3).v.c5
     have f0 := (unhide S3).v.free 0
     have f1 := (unhide S3).v.free 1
     have f2 := (unhide S3).v.free 2
     have f3 := (unhide S3).v.free 3
     have f4 := (unhide S3).v.free 4
     have f5 := (unhide S3).v.free 5
     go_wp2
     refine to_wb (fun W => Box W w.heap.size (w.heap.size + 1 + 1 + 1 + 1 + 1 + 1 + 1 + 1) (.slice a0 n0 k0) (.slice a1 n1 k1) (.slice a2 n2 k2) (.slice a3 n3 k3) (.slice a4 n4 k4) (.int .i64 l) ∧ Fin ((NoOk fx ∧ NoOk fy ∧ NoOk ff ∧ NoOk ft ∧ (1 ≤ am ∧ am ≤ 1000000000000000) ∧ (1 ≤ nu ∧ nu ≤ 1000000000000000) ∧ (1 ≤ de ∧ de ≤ 1000000000000000)) ∧ Ok x.b) x.b (FxI.DoneP (IsFx x.b fx fy ff ft am nu de) x.b) w2.heap.size a0 a1 a2 a3 a4 n0 n1 n2 n3 n4 k0 k1 k2 k3 k4 l t c W ∧ Below w.heap.size w W) ?_ ?_
     · exact ⟨(box_six (unhide S3).v _ _ _ _ _ _).1, (unhide FN).six (unhide S3).v _ _ _ _ _ _, six (unhide S3).b (by omega) _ _ _ _ _ _⟩
     rintro W ⟨X, FI, B⟩
     have g0 := X.c0
     have g1 := X.c1
     have g2 := X.c2
     have g3 := X.c3
     have g4 := X.c4
     have g5 := X.c5
     exact bodyPost_ret (v := .tuple #[.agg #[.slice a0 n0 k0, .slice a1 n1 k1, .slice a2 n2 k2, .slice a3 n3 k3, .slice a4 n4 k4, .int .i64 l], .int .i64 t, .int .i64 c]) (by simp [results, Tryz.results10, go_sem, g0, g1, g2, g3, g4, g5]) rfl (by
         have A := fin_ansM (w := w) (Q := IsFx x.b fx fy ff ft am nu de) FI (unhide S2).b.size B (fun b' t h => h.done) (fun b' t c h hc => h.not hc)
         rcases A with ⟨a, a2, a3⟩ | ⟨a, a2⟩
         · exact .inl ⟨fun hh => a ⟨hh.2, hh.1⟩, a2, a3⟩
         · exact .inr ⟨⟨a.2, a.1⟩, a2⟩))
end Go.Proofs.YtnmeiiaipacplaaGreat.FxTellI
namespace Go.Proofs.YtnmeiiaipacplaaGreat.STell
open Go.ChangeShapes Go.WideShapes Go.ChangeAt Go.RowKit BMem Bks ILists IBalsFit Ans Trd TBox
open Lots (Says says_of NoOk)
open Tup8 (T8 el8)
open SIssue (to_wb)
structure SR8 (w W : World) (x : Bx) : Prop where
  r : Rd W x
  c : Cl W w.heap.size x
  v : Box8 W w.heap.size (w.heap.size + 1) (0, 0, 0, 0, 0, 0, 0, 0)
  b : Below w.heap.size w W
theorem SR8.start {w : World} {x : Bx} (h : Rd w x) : SR8 w ((w.alloc (.cells #[.slice (some ⟨x.ga, 0, none⟩) x.b.ac.length x.ca, .slice (some ⟨x.gi, 0, none⟩) x.b.ic.length x.ci, .slice (some ⟨x.gb, 0, none⟩) x.b.bs.length x.cb, .slice (some ⟨x.gl, 0, none⟩) x.b.ls.length x.cl, .slice (some ⟨x.gt, 0, none⟩) x.b.ts.length x.ct, .int .i64 x.b.lot] 36)).alloc (.cells #[.int .i64 0, .int .i64 0, .int .i64 0, .int .i64 0, .int .i64 0, .int .i64 0, .int .i64 0, .int .i64 0] 110)) x :=
  ⟨(h.alloc _).alloc _, (boxed w x 36).below (one_more _ _) (by simp), Box8.made (0, 0, 0, 0, 0, 0, 0, 0) (by simp) (by simp), ((Below.refl w.heap.size w).alloc (Nat.le_refl _) _).alloc (by simp) _⟩
theorem SR8.step {w W W' : World} {x : Bx} (h : SR8 w W x) (k : Below W.heap.size W W') : SR8 w W' x := by
  have l := h.v.lt
  exact ⟨h.r.below k, h.c.below k (by omega), h.v.below k (by omega), h.b.trans (k.mono h.b.size)⟩
def IsOpens (b : Bk) (lo hi : Int) (xs : List Int) : Prop := (Ok b ∧ xs = openT lo hi b.ts) ∨ (¬ Ok b ∧ xs = [])
theorem IsOpens.same {b : Bk} {lo hi : Int} {xs ys : List Int} (h : IsOpens b lo hi xs) (k : IsOpens b lo hi ys) : xs = ys := by
  rcases h with ⟨h1, rfl⟩ | ⟨h1, rfl⟩ <;> rcases k with ⟨k1, rfl⟩ | ⟨k1, rfl⟩ <;> first | rfl | exact absurd h1 k1 | exact absurd k1 h1
end Go.Proofs.YtnmeiiaipacplaaGreat.STell
namespace Go.Proofs.YtnmeiiaipacplaaGreat.LawT
open Go.ChangeShapes Go.WideShapes Go.ChangeAt Go.RowKit BMem Bks BHelp BkEq LawB
open Ints (Own At marks marks_len marks_getD)
theorem LB.grown {w W W' : World} {y : Ix} {g : Nat} (H : RdI w y) (h : LB w W y) (k : W.grownBy W' (some g)) (hg : w.heap.size < g) : LB w W' y := by
  have b : Below w.heap.size w W' := h.b.grown k h.b.size (fun j e => by injection e; omega)
  have n0 : some w.heap.size ≠ some g := fun e => by injection e; omega
  exact ⟨H.below b, ⟨k.cell h.c.c0 n0, k.cell h.c.c1 n0, k.cell h.c.c2 n0, k.cell h.c.c3 n0, k.cell h.c.c4 n0, k.cell h.c.c5 n0⟩, b, Nat.lt_of_lt_of_le h.s k.size⟩
theorem own_turn {W W' : World} {base g n c : Nat} {xs : List Int} {x : Bx} (h : Own W base g n c xs) (k : Turn x W W') (ne : (∃ N, g < N ∧ Lo x N) ∨ ∃ N, N ≤ g ∧ Up x N) : Own W' base g n c xs := by
  have l := h.lt.2
  have e : W'.heap[g]? = W.heap[g]? := by
    refine k.block g l ?_ ?_ ?_ ?_ ?_
    all_goals
      rcases ne with ⟨N, a, b⟩ | ⟨N, a, b⟩
      · unfold Lo at b; omega
      · unfold Up at b; omega
  refine ⟨h.1, ?_⟩
  rcases h.2 with ⟨h1, _⟩ | ⟨g', c', cur, h1, h2, h3, h4⟩
  · simp at h1
  · obtain ⟨e', _⟩ : g = g' ∧ c = c' := by simpa using h1
    subst e'
    exact Or.inr ⟨g, c', cur, h1, h2, by rw [e]; exact h3, h4⟩
end Go.Proofs.YtnmeiiaipacplaaGreat.LawT
namespace Go.Proofs.YtnmeiiaipacplaaGreat.SHeld
open Go.ChangeShapes Go.WideShapes Go.ChangeAt Go.RowKit BMem Bks ILists IBalsFit
open Lots (Says says_of NoOk)
open Bals (T3 val Amt)
def heldL (bs : List T3) (i : Int) : List (Int × Int) → List (Int × Int)
  | [] => []
  | p :: r => (if p.2 = 1 ∧ 0 < val bs p.1 i then [(p.1, val bs p.1 i)] else []) ++ heldL bs i r
theorem heldL_append (bs : List T3) (i : Int) : ∀ ps qs : List (Int × Int), heldL bs i (ps ++ qs) = heldL bs i ps ++ heldL bs i qs
  | [], qs => rfl
  | p :: r, qs => by simp [heldL, heldL_append bs i r qs]
theorem heldL_len (bs : List T3) (i : Int) : ∀ ps : List (Int × Int), (heldL bs i ps).length ≤ ps.length
  | [] => Nat.le_refl _
  | p :: r => by
    have := heldL_len bs i r
    unfold heldL
    split <;> simp <;> omega
theorem pair_take {ps : List (Int × Int)} {k : Nat} (h : k < ps.length) : ps.take (k + 1) = ps.take k ++ [ps.getD k (0, 0)] := by
  rw [List.take_succ_eq_append_getElem h]
  simp [List.getD, h]
theorem heldL_next {ps : List (Int × Int)} {k : Nat} (bs : List T3) (i : Int) (h : k < ps.length) : heldL bs i (ps.take (k + 1)) = heldL bs i (ps.take k) ++ (if (ps.getD k (0, 0)).2 = 1 ∧ 0 < val bs (ps.getD k (0, 0)).1 i then [((ps.getD k (0, 0)).1, val bs (ps.getD k (0, 0)).1 i)] else []) := by
  rw [pair_take h, heldL_append]
  simp [heldL]
def sumH : List (Int × Int) → Int
  | [] => 0
  | p :: r => p.2 + sumH r
theorem sumH_append : ∀ ps qs : List (Int × Int), sumH (ps ++ qs) = sumH ps + sumH qs
  | [], qs => by simp [sumH]
  | p :: r, qs => by simp [sumH, sumH_append r qs]; omega
theorem sumH_bd : ∀ ps : List (Int × Int), (∀ p ∈ ps, 0 ≤ p.2 ∧ p.2 ≤ 1000000000000000) → 0 ≤ sumH ps ∧ sumH ps ≤ 1000000000000000 * (ps.length : Int)
  | [], _ => by simp [sumH]
  | p :: r, h => by
    have a := h p (by simp)
    have b := sumH_bd r (fun q hq => h q (by simp [hq]))
    simp only [sumH, List.length_cons]
    omega
theorem held_in {bs : List T3} (h : Bals.Right bs) (i : Int) : ∀ ps : List (Int × Int), ∀ p ∈ heldL bs i ps, 0 ≤ p.2 ∧ p.2 ≤ 1000000000000000
  | [], p, hp => by simp [heldL] at hp
  | q :: r, p, hp => by
    unfold heldL at hp
    rcases List.mem_append.1 hp with hp | hp
    · by_cases c : q.2 = 1 ∧ 0 < val bs q.1 i
      · rw [if_pos c] at hp
        have e : p = (q.1, val bs q.1 i) := by simpa using hp
        subst e
        have := (h.val_in q.1 i).1
        unfold Amt at this
        exact ⟨by have := c.2; simp; omega, this.2⟩
      · rw [if_neg c] at hp
        simp at hp
    · exact held_in h i r p hp
def IsHeld (b : Bk) (i : Int) (who what : List Int) (all : Int) (ok : Bool) : Prop :=
  ((Ok b ∧ Amt (sumH (heldL b.bs i b.ac))) ∧ who = (heldL b.bs i b.ac).map Prod.fst ∧ what = (heldL b.bs i b.ac).map Prod.snd ∧ all = sumH (heldL b.bs i b.ac) ∧ ok = true) ∨
  (¬ (Ok b ∧ Amt (sumH (heldL b.bs i b.ac))) ∧ who = [] ∧ what = [] ∧ all = 0 ∧ ok = false)
theorem IsHeld.same {b : Bk} {i a1 a2 : Int} {w1 w2 q1 q2 : List Int} {o1 o2 : Bool} (h : IsHeld b i w1 q1 a1 o1) (k : IsHeld b i w2 q2 a2 o2) : w1 = w2 ∧ q1 = q2 ∧ a1 = a2 ∧ o1 = o2 := by
  rcases h with ⟨h, rfl, rfl, rfl, rfl⟩ | ⟨h, rfl, rfl, rfl, rfl⟩ <;> rcases k with ⟨k, rfl, rfl, rfl, rfl⟩ | ⟨k, rfl, rfl, rfl, rfl⟩ <;> first | exact ⟨rfl, rfl, rfl, rfl⟩ | exact absurd h k | exact absurd k h
set_option maxRecDepth 100000 in
set_option maxHeartbeats 8000000 in
theorem sHeld (w : World) (x : Bx) (i : Int) (h : Rd w x) :
    Calls Tryz.prog 14 #[.agg #[.slice (some ⟨x.ga, 0, none⟩) x.b.ac.length x.ca, .slice (some ⟨x.gi, 0, none⟩) x.b.ic.length x.ci, .slice (some ⟨x.gb, 0, none⟩) x.b.bs.length x.cb, .slice (some ⟨x.gl, 0, none⟩) x.b.ls.length x.cl, .slice (some ⟨x.gt, 0, none⟩) x.b.ts.length x.ct, .int .i64 x.b.lot], .int .i64 i] w fun e w' => ∃ (who what : List Int) (all : Int) (ok : Bool) (g1 c1 g2 c2 : Nat), IsHeld x.b i who what all ok ∧ who.length = what.length ∧ who.length ≤ x.b.ac.length ∧ e = .returned (.tuple #[.slice (some ⟨g1, 0, none⟩) who.length c1, .slice (some ⟨g2, 0, none⟩) what.length c2, .int .i64 all, .bool ok]) ∧ Ints.Own w' w.heap.size g1 who.length c1 who ∧ Ints.Own w' w.heap.size g2 what.length c2 what ∧ g1 ≠ g2 ∧ Below w.heap.size w w' := by
  obtain ⟨b0, h0⟩ := says_of (Ok x.b)
  have H0 := hide h0
  have na := h.na
  have nb := h.nb
  have S0R := hide h
  have S0 := hide (((St.start h 36).step (one_more (w.alloc (.cells #[.slice (some ⟨x.ga, 0, none⟩) x.b.ac.length x.ca, .slice (some ⟨x.gi, 0, none⟩) x.b.ic.length x.ci, .slice (some ⟨x.gb, 0, none⟩) x.b.bs.length x.cb, .slice (some ⟨x.gl, 0, none⟩) x.b.ls.length x.cl, .slice (some ⟨x.gt, 0, none⟩) x.b.ts.length x.ct, .int .i64 x.b.lot] 36)) (.cells #[] 3))).step (one_more ((w.alloc (.cells #[.slice (some ⟨x.ga, 0, none⟩) x.b.ac.length x.ca, .slice (some ⟨x.gi, 0, none⟩) x.b.ic.length x.ci, .slice (some ⟨x.gb, 0, none⟩) x.b.bs.length x.cb, .slice (some ⟨x.gl, 0, none⟩) x.b.ls.length x.cl, .slice (some ⟨x.gt, 0, none⟩) x.b.ts.length x.ct, .int .i64 x.b.lot] 36)).alloc (.cells #[] 3)) (.cells #[] 3)))
  have A0 := hide (Shorts.own_alloc (Shorts.lit0 (w.alloc (.cells #[.slice (some ⟨x.ga, 0, none⟩) x.b.ac.length x.ca, .slice (some ⟨x.gi, 0, none⟩) x.b.ic.length x.ci, .slice (some ⟨x.gb, 0, none⟩) x.b.bs.length x.cb, .slice (some ⟨x.gl, 0, none⟩) x.b.ls.length x.cl, .slice (some ⟨x.gt, 0, none⟩) x.b.ts.length x.ct, .int .i64 x.b.lot] 36)) (w.heap.size + 1) (g := w.heap.size + 1) (by simp) (by simp)) (.cells #[] 3))
  have C0 := hide (Shorts.lit0 ((w.alloc (.cells #[.slice (some ⟨x.ga, 0, none⟩) x.b.ac.length x.ca, .slice (some ⟨x.gi, 0, none⟩) x.b.ic.length x.ci, .slice (some ⟨x.gb, 0, none⟩) x.b.bs.length x.cb, .slice (some ⟨x.gl, 0, none⟩) x.b.ls.length x.cl, .slice (some ⟨x.gt, 0, none⟩) x.b.ts.length x.ct, .int .i64 x.b.lot] 36)).alloc (.cells #[] 3)) (w.heap.size + 1) (g := w.heap.size + 1 + 1) (by simp) (by simp))
  clear h0 h
  go_enter Tryz.func14, Tryz.ntmps14
  go_wp2_with fail
  generalize ((w.alloc (.cells #[.slice (some ⟨x.ga, 0, none⟩) x.b.ac.length x.ca, .slice (some ⟨x.gi, 0, none⟩) x.b.ic.length x.ci, .slice (some ⟨x.gb, 0, none⟩) x.b.bs.length x.cb, .slice (some ⟨x.gl, 0, none⟩) x.b.ls.length x.cl, .slice (some ⟨x.gt, 0, none⟩) x.b.ts.length x.ct, .int .i64 x.b.lot] 36)).alloc (.cells #[] 3)).alloc (.cells #[] 3) = w0 at *
  refine (SBooksOk.sBooksOk _ x b0 (unhide S0).r (unhide H0)).mono ?_
  rintro e w1 ⟨rfl, bb⟩
  have S1 := hide ((unhide S0).step bb)
  have A1 := hide ((unhide A0).below bb (unhide A0).lt.2)
  have C1 := hide ((unhide C0).below bb (unhide C0).lt.2)
  clear bb S0 A0 C0
  cases b0
  · have N := hide (show IsHeld x.b i [] [] 0 false from .inr ⟨fun hh => (unhide H0).no hh.1, rfl, rfl, rfl, rfl⟩)
    have B1 := hide (unhide S1).b
    go_wp2
    refine bodyPost_ret (v := .tuple #[.slice (some ⟨w.heap.size + 1, 0, none⟩) 0 0, .slice (some ⟨w.heap.size + 1 + 1, 0, none⟩) 0 0, .int .i64 0, .bool false]) (by simp [results, Tryz.results14, go_sem]) rfl ⟨[], [], 0, false, _, _, _, _, unhide N, rfl, by simp, rfl, (unhide A1).mono (by omega), (unhide C1).mono (by omega), by omega, unhide B1⟩
  have YES := hide (unhide H0).yes
  have al : x.b.ac.length ≤ 20 := (unhide H0).yes.1.1.1
  have BR := hide (unhide H0).yes.1.2.2.1
  clear H0
  go_wp2
  go_loopw [8, 9, 10, 11] (fun l m s j wr => ∃ (ps : List (Int × Int)) (g1 k1 g2 k2 k : Nat), l = .slice (some ⟨g1, 0, none⟩) ps.length k1 ∧ m = .slice (some ⟨g2, 0, none⟩) ps.length k2 ∧ s = .int .i64 (sumH ps) ∧ j = .int .i64 k ∧ k ≤ x.b.ac.length ∧ ps.length ≤ k ∧ g1 ≠ g2 ∧ Hid (ps = heldL x.b.bs i (x.b.ac.take k)) ∧ Hid (Ints.Own wr (w.heap.size + 1) g1 ps.length k1 (ps.map Prod.fst)) ∧ Hid (Ints.Own wr (w.heap.size + 1) g2 ps.length k2 (ps.map Prod.snd)) ∧ Hid (St w wr x)) (fun _ _ _ j _ => x.b.ac.length - (intOf j).toNat)
  case atStart => exact ⟨[], w.heap.size + 1, 0, w.heap.size + 1 + 1, 0, 0, rfl, rfl, rfl, rfl, by omega, by simp, by omega, hide rfl, A1, C1, S1⟩
  case round =>
    clear A1 C1 S1
    obtain ⟨ps, g1, k1, g2, k2, k, rfl, rfl, rfl, rfl, hk, pl, gne, HP, OA, OC, S2⟩ := hrel
    obtain ⟨c0, c1, c2, c3, c4, c5⟩ := (unhide S2).c
    by_cases t : k < x.b.ac.length
    · obtain ⟨d0, d1⟩ := ((unhide S2).r.ra k t)
      have NP := hide (heldL_next (ps := x.b.ac) (k := k) x.b.bs i t)
      rw [← unhide HP] at NP
      have SB := hide (sumH_bd ps (by rw [unhide HP]; exact held_in (unhide BR) i _))
      have RB := hide (unhide S2).r.rb
      obtain ⟨q0, hq0⟩ : ∃ q0, Hid ((x.b.ac.getD k (0, 0)).1 = q0) := ⟨_, rfl⟩
      obtain ⟨q1, hq1⟩ : ∃ q1, Hid ((x.b.ac.getD k (0, 0)).2 = q1) := ⟨_, rfl⟩
      rw [unhide hq0] at d0
      rw [unhide hq1] at d1
      rw [unhide hq0, unhide hq1] at NP
      obtain ⟨vv, hvv⟩ : ∃ vv, Hid (val x.b.bs q0 i = vv) := ⟨_, rfl⟩
      rw [unhide hvv] at NP
      have VB := hide (show vv ≤ 1000000000000000 ∧ -1000000000000000 ≤ vv from by
        have := ((unhide BR).val_in q0 i).1
        unfold Amt at this
        rw [unhide hvv] at this
        omega)
      clear hq0 hq1
      go_wp2_with fail
      have K4 := And.intro c2 (And.intro c0 d0)
      go_region_held3 (fun w' => w'.cell? ⟨w.heap.size, 2, none⟩ = some (.slice (some ⟨x.gb, 0, none⟩) x.b.bs.length x.cb) ∧ w'.cell? ⟨w.heap.size, 0, none⟩ = some (.slice (some ⟨x.ga, 0, none⟩) x.b.ac.length x.ca) ∧ w'.cell? ⟨x.ga, k * 2, none⟩ = some (.int .i64 q0)) (first | exact K4)
        (first | (go_at_call 66; refine (Look.sOf wr.drew x.gb _ x.cb x.b.bs q0 i rfl nb (unhide RB)).mono ?_; rintro e w3 ⟨he, hw⟩; rw [unhide hvv] at he; subst he; subst hw))
      have S3 := hide ((unhide S2).step (Below.refl _ _).drew)
      have OA3 := hide (show Ints.Own wr.drew (w.heap.size + 1) g1 ps.length k1 (ps.map Prod.fst) from unhide OA)
      have OC3 := hide (show Ints.Own wr.drew (w.heap.size + 1) g2 ps.length k2 (ps.map Prod.snd) from unhide OC)
      have e0 : wr.drew.cell? ⟨x.ga, k * 2, none⟩ = some (.int .i64 q0) := d0
      have e1 : wr.drew.cell? ⟨x.ga, k * 2 + 1, none⟩ = some (.int .i64 q1) := d1
      generalize wr.drew = w3 at *
      clear K4 c0 c1 c2 c3 c4 c5 d0 d1 RB OA OC S2 hvv
      obtain ⟨c0, c1, c2, c3, c4, c5⟩ := (unhide S3).c
      have sz := (unhide S3).s
      have bs := (unhide S3).b.size
      have pl20 : ps.length ≤ 20 := by omega
      by_cases own : q1 = 1 ∧ 0 < vv
      · have NP1 : Hid (heldL x.b.bs i (x.b.ac.take (k + 1)) = ps ++ [(q0, vv)]) := hide (by rw [unhide NP, if_pos own])
        have ob : (q1 == 1) = true := by simpa using own.1
        have ov := own.2
        have WS : IntKind.i64.wrap (sumH ps + vv) = sumH ps + vv := by
          have a := unhide SB
          have b := unhide VB
          rw [IntKind.wrap_i64]
          · omega
          all_goals omega
        clear NP own
        go_wp2_with (first | (at_builtin; refine Shorts.wp_appI _ rfl _ _ rfl (w.heap.size + 1) g1 ps.length k1 (ps.map Prod.fst) w3.heap.size q0 rfl rfl (Shorts.own_alloc (unhide OA3) _) (by simp) (by omega) (by simp; omega) ?_) | go_in)
        intro g5 c5' w5 o5 gr5 loc5
        have l1 := (unhide OA3).lt
        have l2 := (unhide OC3).lt
        have S5 := hide (show St w w5 x from by
          have S4 := (unhide S3).step (one_more w3 (.cells #[.int .i64 q0] 3))
          have n0 : some w.heap.size ≠ some g1 := fun e => by injection e; omega
          exact ⟨(unhide S0R).below (S4.b.grown gr5 S4.b.size (fun j e => by injection e; omega)), ⟨gr5.cell S4.c.c0 n0, gr5.cell S4.c.c1 n0, gr5.cell S4.c.c2 n0, gr5.cell S4.c.c3 n0, gr5.cell S4.c.c4 n0, gr5.cell S4.c.c5 n0⟩, S4.b.grown gr5 S4.b.size (fun j e => by injection e; omega), Nat.lt_of_lt_of_le S4.s gr5.size⟩)
        have OC5 := hide ((Shorts.own_alloc (unhide OC3) (.cells #[.int .i64 q0] 3)).kept gr5 (fun e => by injection e; omega))
        have OA5 := hide o5
        have g5n : g5 ≠ g2 := by
          rcases loc5 with e | e
          · omega
          · have : g5 = w3.heap.size + 1 := by simpa using e
            omega
        have bs5 := (unhide S5).b.size
        clear o5 gr5 loc5 OA3 OC3
        go_wp2_with (first | (at_builtin; refine Shorts.wp_appI _ rfl _ _ rfl (w.heap.size + 1) g2 ps.length k2 (ps.map Prod.snd) w5.heap.size vv rfl rfl (Shorts.own_alloc (unhide OC5) _) (by simp) (by omega) (by have := (unhide S5).s; simp; omega) ?_) | go_in)
        intro g6 c6' w6 o6 gr6 loc6
        have l3 := (unhide OC5).lt
        have l4 := (unhide OA5).lt
        have S6 := hide (show St w w6 x from by
          have S4 := (unhide S5).step (one_more w5 (.cells #[.int .i64 vv] 3))
          have n0 : some w.heap.size ≠ some g2 := fun e => by injection e; omega
          exact ⟨(unhide S0R).below (S4.b.grown gr6 S4.b.size (fun j e => by injection e; omega)), ⟨gr6.cell S4.c.c0 n0, gr6.cell S4.c.c1 n0, gr6.cell S4.c.c2 n0, gr6.cell S4.c.c3 n0, gr6.cell S4.c.c4 n0, gr6.cell S4.c.c5 n0⟩, S4.b.grown gr6 S4.b.size (fun j e => by injection e; omega), Nat.lt_of_lt_of_le S4.s gr6.size⟩)
        have OA6 := hide ((Shorts.own_alloc (unhide OA5) (.cells #[.int .i64 vv] 3)).kept gr6 (fun e => by injection e; omega))
        have OC6 := hide o6
        have g6n : g5 ≠ g6 := by
          rcases loc6 with e | e
          · omega
          · have : g6 = w5.heap.size + 1 := by simpa using e
            omega
        clear o6 gr6 loc6
        go_wp2
        go_roundw
        case rel => exact ⟨ps ++ [(q0, vv)], g5, c5', g6, c6', k + 1, by rw [show (ps ++ [(q0, vv)]).length = ps.length + 1 by simp], by rw [show (ps ++ [(q0, vv)]).length = ps.length + 1 by simp], by rw [sumH_append]; simp [sumH], by go_num, by omega, by simp; omega, g6n, hide (unhide NP1).symm, hide (by rw [show (ps ++ [(q0, vv)]).length = ps.length + 1 by simp, List.map_append]; exact unhide OA6), hide (by rw [show (ps ++ [(q0, vv)]).length = ps.length + 1 by simp, List.map_append]; exact unhide OC6), S6⟩
        case measure => simp [intOf]; omega
      · have NP1 : Hid (heldL x.b.bs i (x.b.ac.take (k + 1)) = ps) := hide (by rw [unhide NP, if_neg own, List.append_nil])
        clear NP
        by_cases o1 : q1 = 1
        · have ov : ¬ 0 < vv := fun e => own ⟨o1, e⟩
          have ob : (q1 == 1) = true := by simpa using o1
          clear own o1
          go_wp2
          go_roundw
          case rel => exact ⟨ps, g1, k1, g2, k2, k + 1, rfl, rfl, rfl, by go_num, by omega, by omega, gne, hide (unhide NP1).symm, OA3, OC3, S3⟩
          case measure => simp [intOf]; omega
        · have ob : (q1 == 1) = false := by simpa using o1
          clear own o1
          go_wp2
          go_roundw
          case rel => exact ⟨ps, g1, k1, g2, k2, k + 1, rfl, rfl, rfl, by go_num, by omega, by omega, gne, hide (unhide NP1).symm, OA3, OC3, S3⟩
          case measure => simp [intOf]; omega
    · obtain rfl : k = x.b.ac.length := by omega
      have EP := hide (show ps = heldL x.b.bs i x.b.ac from by rw [unhide HP, List.take_of_length_le (by omega)])
      obtain ⟨b2, h2⟩ := says_of (Amt (sumH ps))
      have H2 := hide h2
      have B2 := hide (unhide S2).b
      have s2 := (unhide S2).s
      clear HP h2
      go_wp2_with fail
      refine (SOk5.sAmt (sumH ps) b2 _ (unhide H2)).mono ?_
      rintro e v2 ⟨rfl, rfl⟩
      cases b2
      · have N := hide (show IsHeld x.b i [] [] 0 false from .inr ⟨fun hh => (unhide H2).no (by rw [unhide EP]; exact hh.2), rfl, rfl, rfl, rfl⟩)
        clear EP H2
        go_wp2
        refine bodyPost_ret (v := .tuple #[.slice (some ⟨v2.heap.size, 0, none⟩) 0 0, .slice (some ⟨v2.heap.size + 1, 0, none⟩) 0 0, .int .i64 0, .bool false]) (by simp [results, Tryz.results14, go_sem]) rfl ⟨[], [], 0, false, v2.heap.size, 0, v2.heap.size + 1, 0, unhide N, rfl, by simp, rfl, ?_, ?_, by omega, ?_⟩
        · exact Shorts.own_alloc (Shorts.lit0 v2 w.heap.size (g := v2.heap.size) (by omega) rfl) _
        · exact Shorts.lit0 (v2.alloc (.cells #[] 3)) w.heap.size (g := v2.heap.size + 1) (by simp; omega) (by simp)
        · exact ((unhide B2).alloc (by omega) _).alloc (by simp; omega) _
      · have N := hide (show IsHeld x.b i (ps.map Prod.fst) (ps.map Prod.snd) (sumH ps) true from .inl ⟨⟨unhide YES, by have := (unhide H2).yes; rw [unhide EP] at this; exact this⟩, by rw [unhide EP], by rw [unhide EP], by rw [unhide EP], rfl⟩)
        clear EP H2
        go_wp2
        refine bodyPost_ret (v := .tuple #[.slice (some ⟨g1, 0, none⟩) ps.length k1, .slice (some ⟨g2, 0, none⟩) ps.length k2, .int .i64 (sumH ps), .bool true]) (by simp [results, Tryz.results14, go_sem]) rfl ⟨_, _, _, true, g1, k1, g2, k2, unhide N, by simp, by simp; omega, by simp, by rw [List.length_map]; exact (unhide OA).mono (by omega), by rw [List.length_map]; exact (unhide OC).mono (by omega), gne, unhide B2⟩
end Go.Proofs.YtnmeiiaipacplaaGreat.SHeld
namespace Go.Proofs.YtnmeiiaipacplaaGreat.LawH
open Go.ChangeShapes Go.WideShapes Go.ChangeAt Go.RowKit BMem Bks BHelp BkEq LawB LawT
open Ints (At marks marks_len marks_getD)
set_option maxRecDepth 100000 in
theorem heldIntS2 (w : World) (g n cap : Nat) (s : Int) (s0 : 0 ≤ s) (s1 : s ≤ 100000000) (h20 : n ≤ 1048576) (h : At w g (marks s n)) :
    Calls Tryz.prog 18 #[.slice (some ⟨g, 0, none⟩) n cap, .int .i64 s] w fun e w' => e = .returned (.int .i64 (s + (n : Int))) ∧ w' = w := by
  go_enter Tryz.func18, Tryz.ntmps18
  go_wp2
  go_loop [1, 5] (fun m i => ∃ (k : Nat), k ≤ n ∧ i = .int .i64 k ∧ m = .int .i64 (s + (k : Int))) (fun _ i => n - (intOf i).toNat)
  case atStart => exact ⟨0, by omega, rfl, by go_num⟩
  case round =>
    obtain ⟨k, hk, rfl, rfl⟩ := hrel
    by_cases t : k < n
    · have e1 := h k (by rw [marks_len]; exact t)
      rw [marks_getD s n k t] at e1
      clear h
      go_wp2
      go_round
      case rel => exact ⟨k + 1, by omega, by go_num, by go_num⟩
      case measure => simp [intOf]; omega
    · obtain rfl : k = n := by omega
      clear h
      go_wp2
      go_ret
      exact ⟨rfl, rfl⟩
structure Two (W : World) (base gA nA cA : Nat) (xs : List Int) (gB nB cB : Nat) (ys : List Int) : Prop where
  a : Ints.Own W base gA nA cA xs
  b : Ints.Own W base gB nB cB ys
  ne : gA ≠ gB
section
variable {W W' : World} {base gA nA cA : Nat} {xs : List Int} {gB nB cB : Nat} {ys : List Int}
theorem Two.below (h : Two W base gA nA cA xs gB nB cB ys) (k : Below W.heap.size W W') : Two W' base gA nA cA xs gB nB cB ys := ⟨h.a.below k h.a.lt.2, h.b.below k h.b.lt.2, h.ne⟩
theorem Two.rebase {base' : Nat} (h : Two W base gA nA cA xs gB nB cB ys) (hb : base' ≤ base) : Two W base' gA nA cA xs gB nB cB ys := ⟨h.a.mono hb, h.b.mono hb, h.ne⟩
theorem Two.alloc (h : Two W base gA nA cA xs gB nB cB ys) (o : Obj) : Two (W.alloc o) base gA nA cA xs gB nB cB ys := h.below ((Below.refl _ _).alloc (Nat.le_refl _) o)
theorem Two.kept {r : Nat} (h : Two W base gA nA cA xs gB nB cB ys) (k : W.grownBy W' (some r)) (hr : gA ≠ r) (hr' : gB ≠ r) : Two W' base gA nA cA xs gB nB cB ys :=
  ⟨h.a.kept k (fun e => hr (by injection e)), h.b.kept k (fun e => hr' (by injection e)), h.ne⟩
theorem Two.turn {x : Bx} (h : Two W base gA nA cA xs gB nB cB ys) (k : Turn x W W') (ne : (∃ N, gA < N ∧ gB < N ∧ Lo x N) ∨ ∃ N, N ≤ gA ∧ N ≤ gB ∧ Up x N) : Two W' base gA nA cA xs gB nB cB ys := by
  rcases ne with ⟨N, h1, h2, h3⟩ | ⟨N, h1, h2, h3⟩
  · exact ⟨own_turn h.a k (.inl ⟨N, h1, h3⟩), own_turn h.b k (.inl ⟨N, h2, h3⟩), h.ne⟩
  · exact ⟨own_turn h.a k (.inr ⟨N, h1, h3⟩), own_turn h.b k (.inr ⟨N, h2, h3⟩), h.ne⟩
end
end Go.Proofs.YtnmeiiaipacplaaGreat.LawH
namespace Go.Proofs.YtnmeiiaipacplaaGreat.HeldP
open Go.RowKit Bks SHeld
open Bals (T3 val Amt el3 Bef)
open Lots (NoOk)
def pick (ac : List (Int × Int)) (i : Int) (p : T3) : List (Int × Int) := if p.2.1 = i ∧ kindOf ac p.1 = 1 then [(p.1, p.2.2)] else []
def heldB (ac : List (Int × Int)) (i : Int) : List T3 → List (Int × Int)
  | [] => []
  | p :: r => pick ac i p ++ heldB ac i r
theorem heldB_append (ac : List (Int × Int)) (i : Int) : ∀ ps qs : List T3, heldB ac i (ps ++ qs) = heldB ac i ps ++ heldB ac i qs
  | [], qs => rfl
  | p :: r, qs => by simp [heldB, heldB_append ac i r qs]
theorem heldB_next {ac : List (Int × Int)} {i : Int} {ps : List T3} {k : Nat} (h : k < ps.length) : heldB ac i (ps.take (k + 1)) = heldB ac i (ps.take k) ++ pick ac i (el3 ps k) := by
  rw [List.take_succ_eq_append_getElem h, heldB_append]
  simp [heldB, el3, List.getD, h]
theorem heldB_len (ac : List (Int × Int)) (i : Int) : ∀ ps : List T3, (heldB ac i ps).length ≤ ps.length
  | [] => Nat.le_refl _
  | p :: r => by
    have := heldB_len ac i r
    unfold heldB pick
    split <;> simp <;> omega
theorem heldB_mem {ac : List (Int × Int)} {i : Int} : ∀ {ps : List T3} {q : Int × Int}, q ∈ heldB ac i ps ↔ (q.1, i, q.2) ∈ ps ∧ kindOf ac q.1 = 1
  | [], q => by simp [heldB]
  | p :: r, q => by
    unfold heldB pick
    rw [List.mem_append, heldB_mem (ps := r)]
    obtain ⟨p1, p2, p3⟩ := p
    obtain ⟨q1, q2⟩ := q
    by_cases c : p2 = i ∧ kindOf ac p1 = 1
    · rw [if_pos c]
      obtain ⟨rfl, c⟩ := c
      simp only [List.mem_cons, List.not_mem_nil, or_false, Prod.mk.injEq]
      constructor
      · intro h
        rcases h with h | h
        · exact ⟨.inl ⟨h.1, trivial, h.2⟩, by rw [h.1]; exact c⟩
        · exact ⟨.inr h.1, h.2⟩
      · rintro ⟨h1 | h1, h2⟩
        · exact .inl ⟨h1.1, h1.2.2⟩
        · exact .inr ⟨h1, h2⟩
    · rw [if_neg c]
      simp only [List.not_mem_nil, false_or, List.mem_cons, Prod.mk.injEq]
      constructor
      · rintro ⟨h1, h2⟩
        exact ⟨.inr h1, h2⟩
      · rintro ⟨⟨rfl, rfl, rfl⟩ | h1, h2⟩
        · exact absurd ⟨rfl, h2⟩ c
        · exact ⟨h1, h2⟩
theorem heldL_mem {bs : List T3} {i : Int} : ∀ {ps : List (Int × Int)} {q : Int × Int}, q ∈ heldL bs i ps ↔ (q.1, 1) ∈ ps ∧ q.2 = val bs q.1 i ∧ 0 < q.2
  | [], q => by simp [heldL]
  | p :: r, q => by
    unfold heldL
    rw [List.mem_append, heldL_mem (ps := r)]
    obtain ⟨p1, p2⟩ := p
    obtain ⟨q1, q2⟩ := q
    by_cases c : p2 = 1 ∧ 0 < val bs p1 i
    · rw [if_pos c]
      obtain ⟨rfl, c⟩ := c
      simp only [List.mem_cons, List.not_mem_nil, or_false, Prod.mk.injEq]
      constructor
      · rintro (⟨rfl, rfl⟩ | ⟨h1, h2⟩)
        · exact ⟨.inl (by simp), rfl, c⟩
        · exact ⟨.inr h1, h2⟩
      · rintro ⟨⟨rfl, _⟩ | h1, h2, h3⟩
        · exact .inl ⟨rfl, h2⟩
        · exact .inr ⟨h1, h2, h3⟩
    · rw [if_neg c]
      simp only [List.not_mem_nil, false_or, List.mem_cons, Prod.mk.injEq]
      constructor
      · rintro ⟨h1, h2⟩
        exact ⟨.inr h1, h2⟩
      · rintro ⟨⟨rfl, rfl⟩ | h1, h2, h3⟩
        · exact absurd ⟨rfl, by rw [← h2]; exact h3⟩ c
        · exact ⟨h1, h2, h3⟩
theorem ext2 : ∀ {l₁ l₂ : List (Int × Int)}, l₁.Pairwise (fun p q => p.1 < q.1) → l₂.Pairwise (fun p q => p.1 < q.1) → (∀ p, p ∈ l₁ ↔ p ∈ l₂) → l₁ = l₂
  | [], [], _, _, _ => rfl
  | [], y :: r, _, _, h => absurd ((h y).2 List.mem_cons_self) List.not_mem_nil
  | x :: r, [], _, _, h => absurd ((h x).1 List.mem_cons_self) List.not_mem_nil
  | x :: r, y :: s, h1, h2, h => by
    obtain ⟨a1, b1⟩ := List.pairwise_cons.1 h1
    obtain ⟨a2, b2⟩ := List.pairwise_cons.1 h2
    have exy : x = y := by
      rcases List.mem_cons.1 ((h x).1 List.mem_cons_self) with e | e
      · exact e
      · rcases List.mem_cons.1 ((h y).2 List.mem_cons_self) with e' | e'
        · exact e'.symm
        · have p := a2 x e
          have q := a1 y e'
          omega
    subst exy
    rw [ext2 b1 b2 (fun p => ⟨fun hp => ?_, fun hp => ?_⟩)]
    · rcases List.mem_cons.1 ((h p).1 (List.mem_cons_of_mem _ hp)) with rfl | e
      · have := a1 _ hp; omega
      · exact e
    · rcases List.mem_cons.1 ((h p).2 (List.mem_cons_of_mem _ hp)) with rfl | e
      · have := a2 _ hp; omega
      · exact e
theorem heldL_asc {bs : List T3} {i : Int} : ∀ {ps : List (Int × Int)}, ps.Pairwise (fun p q => p.1 < q.1) → (heldL bs i ps).Pairwise (fun p q => p.1 < q.1)
  | [], _ => List.Pairwise.nil
  | p :: r, h => by
    obtain ⟨a, b⟩ := List.pairwise_cons.1 h
    unfold heldL
    have ih := heldL_asc (bs := bs) (i := i) b
    split
    · rw [List.singleton_append, List.pairwise_cons]
      exact ⟨fun q hq => a (q.1, 1) (heldL_mem.1 hq).1, ih⟩
    · exact ih
theorem heldB_asc {ac : List (Int × Int)} {i : Int} : ∀ {ps : List T3}, ps.Pairwise Bef → (heldB ac i ps).Pairwise (fun p q => p.1 < q.1)
  | [], _ => List.Pairwise.nil
  | p :: r, h => by
    obtain ⟨a, b⟩ := List.pairwise_cons.1 h
    unfold heldB pick
    have ih := heldB_asc (ac := ac) (i := i) b
    split
    · rename_i c
      rw [List.singleton_append, List.pairwise_cons]
      refine ⟨fun q hq => ?_, ih⟩
      have := a (q.1, i, q.2) (heldB_mem.1 hq).1
      unfold Bef at this
      have c1 := c.1
      simp only at this ⊢
      omega
    · exact ih
theorem held_eq {b : Bk} (h : Ok b) (i : Int) : heldL b.bs i b.ac = heldB b.ac i b.bs := by
  have ra : Chart.Right 20 4 b.ac := h.1.1
  have rb : Bals.Right b.bs := h.1.2.2.1
  have pa : b.ac.Pairwise (fun p q => p.1 < q.1) := by
    rw [List.pairwise_iff_getElem]
    intro x y hx hy hxy
    have := ra.asc y x hxy hy
    simpa [Chart.el, List.getD, hx, hy] using this
  refine ext2 (heldL_asc pa) (heldB_asc rb.good.1) fun q => ?_
  rw [heldL_mem, heldB_mem]
  constructor
  · rintro ⟨h1, h2, h3⟩
    refine ⟨?_, kind_of_mem (right_one ra) _ h1⟩
    rw [h2]
    exact Bals.val_mem _ _ _ (by omega)
  · rintro ⟨h1, h2⟩
    have hv := Bals.val_of_mem _ rb.good.1 _ h1
    have hz := rb.good.2 _ h1
    simp only at hv hz
    have km := kind_mem b.ac q.1 (by rw [h2]; decide)
    rw [h2] at km
    refine ⟨km, hv.symm, ?_⟩
    obtain ⟨k, hk, e⟩ := Bals.mem_getD h1
    have f := (h.2.1.1 k hk).2.2
    rw [e] at f
    simp only [h2, true_and] at f
    omega
theorem heldB_in {b : Bk} (h : Ok b) (i : Int) {k : Nat} (hk : k < b.bs.length) {q : Int × Int} (hq : q ∈ pick b.ac i (el3 b.bs k)) : 1 ≤ q.2 ∧ q.2 ≤ 1000000000000000 := by
  have rb : Bals.Right b.bs := h.1.2.2.1
  have m : q ∈ heldB b.ac i b.bs := by
    have : q ∈ heldB b.ac i (b.bs.take (k + 1)) := by rw [heldB_next hk]; exact List.mem_append.2 (.inr hq)
    have s : b.bs = b.bs.take (k + 1) ++ b.bs.drop (k + 1) := (List.take_append_drop _ _).symm
    rw [s, heldB_append]
    exact List.mem_append.2 (.inl this)
  rw [← held_eq h] at m
  have a := heldL_mem.1 m
  have c := held_in rb i b.ac q m
  omega
theorem sum_part : ∀ {ps qs : List (Int × Int)}, ps <+: qs → (∀ q ∈ qs, 1 ≤ q.2) → sumH ps ≤ sumH qs := by
  rintro ps _ ⟨r, rfl⟩ h
  rw [sumH_append]
  have : ∀ r : List (Int × Int), (∀ q ∈ r, 1 ≤ q.2) → 0 ≤ sumH r := by
    intro r
    induction r with
    | nil => intro _; simp [sumH]
    | cons p s ih =>
      intro hr
      have a := hr p (by simp)
      have b := ih fun q hq => hr q (by simp [hq])
      simp only [sumH]; omega
  have := this r fun q hq => h q (by simp [hq])
  omega
end Go.Proofs.YtnmeiiaipacplaaGreat.HeldP
namespace Go.Proofs.YtnmeiiaipacplaaGreat.Pay
open Bks Weigh Quota Order Parts SHeld
open Bals (T3 val Amt)
open Lots (NoOk)
def tot : List Int → Int
  | [] => 0
  | x :: r => x + tot r
theorem tot_append : ∀ xs ys : List Int, tot (xs ++ ys) = tot xs + tot ys
  | [], ys => by simp [tot]
  | x :: r, ys => by simp [tot, tot_append r ys]; omega
theorem tot_set : ∀ (xs : List Int) (i : Nat), i < xs.length → tot (xs.set i (xs.getD i 0 + 1)) = tot xs + 1
  | [], i, h => by simp at h
  | x :: r, 0, h => by simp [tot]; omega
  | x :: r, i + 1, h => by
    have := tot_set r i (by simpa using h)
    simp only [List.set_cons_succ, tot, List.getD_cons_succ]
    omega
theorem tot_bump (qs : List Int) (L : List Nat) (m : Nat) (h : ∀ j, j < m → L.getD j 0 < qs.length) : tot (bump qs L m) = tot qs + (m : Int) := by
  induction m with
  | zero => simp [bump]
  | succ m ih =>
    rw [bump, tot_set _ _ (by rw [bump_len]; exact h m (by omega)), ih fun j hj => h j (by omega)]
    omega
theorem tot_wholes (t : Int) (xs : List Int) (k : Nat) : tot (wholes t xs k) = SQ t xs k := by
  induction k with
  | zero => simp [wholes, tot, SQ]
  | succ k ih => rw [wholes_succ, tot_append, ih]; simp [tot, SQ]
theorem tot_ge : ∀ (xs : List Int), (∀ p ∈ xs, 0 ≤ p) → 0 ≤ tot xs
  | [], _ => by simp [tot]
  | x :: r, h => by
    have a := h x (by simp)
    have b := tot_ge r fun p hp => h p (by simp [hp])
    simp only [tot]; omega
theorem tot_one : ∀ (xs : List Int), (∀ p ∈ xs, 0 ≤ p) → ∀ p ∈ xs, p ≤ tot xs
  | [], _, p, hp => by simp at hp
  | x :: r, h, p, hp => by
    have a := h x (by simp)
    have b := tot_ge r fun p hp => h p (by simp [hp])
    rcases List.mem_cons.1 hp with rfl | hp
    · simp only [tot]; omega
    · have c := tot_one r (fun p hp => h p (by simp [hp])) p hp
      simp only [tot]; omega
theorem S_take (xs : List Int) : ∀ k, k ≤ xs.length → S xs k = tot (xs.take k)
  | 0, _ => by simp [S, tot]
  | k + 1, h => by
    rw [S, S_take xs k (by omega), List.take_succ_eq_append_getElem (by omega), tot_append]
    simp [tot, List.getD, show k < xs.length by omega]
theorem S_tot (xs : List Int) : S xs xs.length = tot xs := by rw [S_take xs _ (Nat.le_refl _), List.take_length]
theorem sumH_tot : ∀ ps : List (Int × Int), sumH ps = tot (ps.map Prod.snd)
  | [] => rfl
  | p :: r => by simp [sumH, tot, sumH_tot r]
theorem shares_tot {t : Int} {xs ps : List Int} {ok : Bool} (h : STells t xs ps ok) (hok : ok = true) : tot ps = t ∧ ps.length = xs.length ∧ ∀ p ∈ ps, 0 ≤ p ∧ p ≤ t := by
  rcases h with ⟨h1, h2, h3, L, M, h4, h5, h6, rfl⟩ | h
  · have e : tot (bump (wholes t xs xs.length) L M) = t := by
      rw [tot_bump _ _ _ (fun j hj => by rw [wholes_len]; exact h4.getD_lt j (by omega)), tot_wholes]
      omega
    have nn : ∀ p ∈ bump (wholes t xs xs.length) L M, 0 ≤ p := fun p hp => by
      obtain ⟨j, hj, rfl⟩ := List.mem_iff_getElem.1 hp
      have := (bump_bd (wholes t xs xs.length) L t h2.1 (wholes_bd t xs h2 h1) M j).1
      simpa [List.getD, hj] using this
    refine ⟨e, by rw [bump_len, wholes_len], fun p hp => ⟨nn p hp, ?_⟩⟩
    have := tot_one _ nn p hp
    omega
  · rw [h.2.1] at hok; cases hok
theorem held_good {b : Bk} {i : Int} {who what : List Int} {all : Int} (h : IsHeld b i who what all true) (ne : who ≠ []) : Weigh.Good what ∧ all = tot what ∧ who.length = what.length ∧ who.length ≤ 20 ∧ (∀ a ∈ who, NoOk a) ∧ (∀ a ∈ who, kindOf b.ac a = 1 ∧ 0 < val b.bs a i) ∧ (∀ x ∈ what, 1 ≤ x) := by
  rcases h with ⟨⟨hok, hs⟩, rfl, rfl, rfl, _⟩ | ⟨_, _, _, _, e⟩
  · have al : b.ac.length ≤ 20 := hok.1.1.1
    have hl := heldL_len b.bs i b.ac
    have pos : ∀ ps : List (Int × Int), ∀ p ∈ heldL b.bs i ps, 0 < p.2 ∧ p.2 = val b.bs p.1 i ∧ (p.1, 1) ∈ ps := by
      intro ps
      induction ps with
      | nil => intro p hp; simp [heldL] at hp
      | cons q r ih =>
        intro p hp
        unfold heldL at hp
        rcases List.mem_append.1 hp with hp | hp
        · by_cases c : q.2 = 1 ∧ 0 < val b.bs q.1 i
          · rw [if_pos c] at hp
            have e : p = (q.1, val b.bs q.1 i) := by simpa using hp
            subst e
            refine ⟨c.2, rfl, ?_⟩
            have : q = (q.1, 1) := by rw [← c.1]
            rw [← this]; simp
          · rw [if_neg c] at hp; simp at hp
        · obtain ⟨u, v, z⟩ := ih p hp
          exact ⟨u, v, by simp [z]⟩
    have wt := held_in hok.1.2.2.1 i b.ac
    have ne' : heldL b.bs i b.ac ≠ [] := fun e => ne (by rw [e]; rfl)
    have l0 : 0 < (heldL b.bs i b.ac).length := List.length_pos_iff.2 ne'
    have elem : ∀ p ∈ heldL b.bs i b.ac, NoOk p.1 ∧ kindOf b.ac p.1 = 1 := fun p hp => by
      obtain ⟨u, v, z⟩ := pos _ p hp
      obtain ⟨j, hj, e⟩ := List.mem_iff_getElem.1 z
      have r := hok.1.1.2 j hj
      have ee : Chart.el b.ac j = (p.1, 1) := by simpa [Chart.el, List.getD, hj] using e
      unfold Chart.RowOk at r
      rw [ee] at r
      exact ⟨r.1, kind_of_mem (right_one hok.1.1) (p.1, 1) z⟩
    have e1 : tot ((heldL b.bs i b.ac).map Prod.snd) = sumH (heldL b.bs i b.ac) := (sumH_tot _).symm
    have p1 : ∀ x ∈ (heldL b.bs i b.ac).map Prod.snd, 1 ≤ x := fun x hx => by
      obtain ⟨p, hp, rfl⟩ := List.mem_map.1 hx
      have := (pos _ p hp).1; omega
    refine ⟨⟨⟨by simp; omega, by simp; omega⟩, fun j hj => ?_, ?_, ?_⟩, e1.symm, by simp, by simp; omega, ?_, ?_, p1⟩
    · have m : ((heldL b.bs i b.ac).map Prod.snd).getD j 0 ∈ (heldL b.bs i b.ac).map Prod.snd := by
        simp only [List.getD, List.getElem?_eq_getElem hj, Option.getD_some]; exact List.getElem_mem hj
      obtain ⟨p, hp, e⟩ := List.mem_map.1 m
      rw [← e]
      exact wt p hp
    · rw [S_tot]
      cases hh : heldL b.bs i b.ac with
      | nil => exact absurd hh ne'
      | cons p r =>
        rw [hh] at p1
        have a := p1 p.2 (by simp)
        have c := tot_ge (r.map Prod.snd) fun x hx => by have := p1 x (by simp at hx ⊢; exact .inr hx); omega
        simp only [List.map_cons, tot]; omega
    · rw [S_tot, e1]; exact hs.2
    · intro a ha
      obtain ⟨p, hp, rfl⟩ := List.mem_map.1 ha
      exact (elem p hp).1
    · intro a ha
      obtain ⟨p, hp, rfl⟩ := List.mem_map.1 ha
      obtain ⟨u, v, z⟩ := pos _ p hp
      exact ⟨(elem p hp).2, by omega⟩
  · cases e
def legsW (i : Int) (who ps : List Int) : List T3 := List.zipWith (fun a p => (a, i, p)) who ps
theorem legsW_len {i : Int} {who ps : List Int} (h : ps.length = who.length) : (legsW i who ps).length = who.length := by
  simp [legsW, h]
theorem legsW_sum (i j : Int) : ∀ who ps : List Int, ps.length = who.length → Bals.sumI (legsW i who ps) j = if i = j then tot ps else 0
  | [], [], _ => by simp [legsW, Bals.sumI, tot]
  | a :: r, p :: s, h => by
    have := legsW_sum i j r s (by simpa using h)
    simp only [legsW, List.zipWith_cons_cons, Bals.sumI, tot] at this ⊢
    rw [this]
    split <;> omega
  | [], p :: s, h => by simp at h
  | a :: r, [], h => by simp at h
theorem legsW_mem {i : Int} : ∀ {who ps : List Int} {q : T3}, q ∈ legsW i who ps → q.1 ∈ who ∧ q.2.1 = i ∧ q.2.2 ∈ ps
  | [], ps, q, h => by simp [legsW] at h
  | a :: r, [], q, h => by simp [legsW] at h
  | a :: r, p :: s, q, h => by
    simp only [legsW, List.zipWith_cons_cons, List.mem_cons] at h
    rcases h with rfl | h
    · simp
    · obtain ⟨x, y, z⟩ := legsW_mem (who := r) (ps := s) h
      exact ⟨by simp [x], y, by simp [z]⟩
theorem legsW_next {i : Int} {who ps : List Int} {k : Nat} (h : k < who.length) (hl : ps.length = who.length) : legsW i (who.take (k + 1)) (ps.take (k + 1)) = legsW i (who.take k) (ps.take k) ++ [(who.getD k 0, i, ps.getD k 0)] := by
  rw [List.take_succ_eq_append_getElem h, List.take_succ_eq_append_getElem (by omega)]
  unfold legsW
  rw [List.zipWith_append (by simp; omega)]
  simp [List.getD, h, show k < ps.length by omega]
def legsP (payer cash t : Int) (who ps : List Int) : List T3 := (payer, cash, -t) :: legsW cash who ps
theorem legsP_even {payer cash t : Int} {who ps : List Int} (hl : ps.length = who.length) (ht : tot ps = t) : Bals.Even (legsP payer cash t who ps) := by
  intro j
  unfold legsP
  rw [Bals.sumI, legsW_sum cash j who ps hl, ht]
  simp only
  split <;> omega
theorem legsP_formed {payer cash t : Int} {who ps : List Int} (h1 : NoOk payer) (h2 : NoOk cash) (t0 : 0 ≤ t) (t1 : t ≤ 1000000000000000) (hl : ps.length = who.length) (h20 : who.length ≤ 20) (hw : ∀ a ∈ who, NoOk a) (hp : ∀ p ∈ ps, 0 ≤ p ∧ p ≤ t) : Bals.Formed (legsP payer cash t who ps) := by
  refine ⟨by have := legsW_len (i := cash) hl; simp [legsP]; omega, fun k hk => ?_⟩
  have m : Bals.el3 (legsP payer cash t who ps) k ∈ legsP payer cash t who ps := Bals.getD_mem hk
  unfold Bals.LegOk
  generalize Bals.el3 (legsP payer cash t who ps) k = q at m
  rcases List.mem_cons.1 m with rfl | m
  · exact ⟨h1, h2, by simp only; omega, by simp only; omega⟩
  · obtain ⟨a, e, p⟩ := legsW_mem m
    have := hp _ p
    exact ⟨hw _ a, by rw [e]; exact h2, by omega, by omega⟩
def PayNone (b : Bk) (paper cash payer : Int) : Prop := kindOf b.ac payer = 0 ∨ kindOf b.ic paper = 0 ∨ kindOf b.ic cash = 0
def PayKind (b : Bk) (paper cash payer : Int) : Prop := kindOf b.ac payer ≠ 2 ∨ kindOf b.ic paper ≠ 2 ∨ kindOf b.ic cash ≠ 1
def IsPay (b : Bk) (paper cash payer t : Int) (b' : Bk) (n c : Int) : Prop :=
  (PayNone b paper cash payer ∧ b' = b ∧ n = 0 ∧ c = 3) ∨
  (¬ PayNone b paper cash payer ∧ PayKind b paper cash payer ∧ b' = b ∧ n = 0 ∧ c = 4) ∨
  (¬ PayNone b paper cash payer ∧ ¬ PayKind b paper cash payer ∧ ∃ who what all ok, IsHeld b paper who what all ok ∧ ((ok = false ∧ b' = b ∧ n = 0 ∧ c = 8) ∨
    (ok = true ∧ who = [] ∧ b' = b ∧ n = 0 ∧ c = 5) ∨
    (ok = true ∧ who ≠ [] ∧ ∃ ps, STells t what ps true ∧ ∃ b1 c1, IsPosted b (legsP payer cash t who ps) b1 c1 ∧ ((c1 ≠ 0 ∧ b' = b ∧ n = 0 ∧ c = c1) ∨ (c1 = 0 ∧ b' = b1 ∧ n = who.length ∧ c = 0)))))
theorem IsPay.same {b b1 b2 : Bk} {p q y t g1 g2 c1 c2 : Int} (h : IsPay b p q y t b1 g1 c1) (k : IsPay b p q y t b2 g2 c2) : b1 = b2 ∧ g1 = g2 ∧ c1 = c2 := by
  rcases h with ⟨h, rfl, rfl, rfl⟩ | ⟨h, h2, rfl, rfl, rfl⟩ | ⟨h, h2, w1, w2, al, ok, ht, h'⟩ <;> rcases k with ⟨k, rfl, rfl, rfl⟩ | ⟨k, k2, rfl, rfl, rfl⟩ | ⟨k, k2, v1, v2, al', ok', kt, k'⟩ <;>
    first | exact ⟨rfl, rfl, rfl⟩ | exact absurd h k | exact absurd k h | exact absurd h2 k2 | exact absurd k2 h2 | skip
  obtain ⟨rfl, rfl, rfl, rfl⟩ := ht.same kt
  rcases h' with ⟨h3, rfl, rfl, rfl⟩ | ⟨h3, h4, rfl, rfl, rfl⟩ | ⟨h3, h4, ps, hs, d1, e1, hp, h'⟩ <;> rcases k' with ⟨k3, rfl, rfl, rfl⟩ | ⟨k3, k4, rfl, rfl, rfl⟩ | ⟨k3, k4, ps', ks, d2, e2, kp, k'⟩ <;>
    first | exact ⟨rfl, rfl, rfl⟩ | (exfalso; rw [h3] at k3; exact absurd k3 (by decide)) | exact absurd h4 k4 | exact absurd k4 h4 | skip
  obtain rfl := (hs.unique ks).1
  obtain ⟨rfl, rfl⟩ := hp.same kp
  rcases h' with ⟨h4, rfl, rfl, rfl⟩ | ⟨h4, rfl, rfl, rfl⟩ <;> rcases k' with ⟨k4, rfl, rfl, rfl⟩ | ⟨k4, rfl, rfl, rfl⟩
  · exact ⟨rfl, rfl, rfl⟩
  · exact absurd k4 h4
  · exact absurd h4 k4
  · exact ⟨rfl, rfl, rfl⟩
end Go.Proofs.YtnmeiiaipacplaaGreat.Pay
namespace Go.Proofs.YtnmeiiaipacplaaGreat.SPay
open Go.ChangeShapes Go.WideShapes Go.ChangeAt Go.RowKit BMem Bks ILists BHelp Ans SBk Corp Trd Pay
open IBalsFit (one_more)
open Lots (Says says_of NoOk)
open Bals (T3)
open Triples (Own3 At3 Holds3)
open SIssue (to_wb off_box six_alloc box_six_alloc ow_six_alloc eq_true eq_false ne_true ne_false)
open SMove (AnsM)
open SHeld (IsHeld)
open Parts (STells bump wholes)
def ToldP (b : Bk) (pp pc py tt : Int) : Prop := Ok b ∧ NoOk pp ∧ NoOk pc ∧ NoOk py ∧ (0 ≤ tt ∧ tt ≤ 1000000000000000)
theorem own_leg (w : World) (a i q : Int) : Own3 80 (w.alloc (.cells #[.int .i64 a, .int .i64 i, .int .i64 q] 80)) w.heap.size w.heap.size 1 1 [(a, i, q)] :=
  World.ownsRow_lit w #[.int .i64 a, .int .i64 i, .int .i64 q] 1 (Nat.le_refl _) (by decide) rfl
set_option maxRecDepth 100000 in
set_option maxHeartbeats 32000000 in
theorem sPay (w : World) (x : Bx) (pp pc py tt : Int) (hr : Rd w x) :
    Calls Tryz.prog 21 #[.agg #[.slice (some ⟨x.ga, 0, none⟩) x.b.ac.length x.ca, .slice (some ⟨x.gi, 0, none⟩) x.b.ic.length x.ci, .slice (some ⟨x.gb, 0, none⟩) x.b.bs.length x.cb, .slice (some ⟨x.gl, 0, none⟩) x.b.ls.length x.cl, .slice (some ⟨x.gt, 0, none⟩) x.b.ts.length x.ct, .int .i64 x.b.lot], .int .i64 pp, .int .i64 pc, .int .i64 py, .int .i64 tt] w (AnsM (ToldP x.b pp pc py tt) (IsPay x.b pp pc py tt) w) := by
  obtain ⟨b0, h0⟩ := says_of (Ok x.b)
  obtain ⟨b1, h1⟩ := says_of (NoOk pp)
  obtain ⟨b2, h2⟩ := says_of (NoOk pc)
  obtain ⟨b3, h3⟩ := says_of (NoOk py)
  obtain ⟨b4, h4⟩ := says_of (0 ≤ tt ∧ tt ≤ 1000000000000000)
  have H0 := hide h0
  have H1 := hide h1
  have H2 := hide h2
  have H3 := hide h3
  have H4 := hide h4
  have S0 := hide (SR.start hr)
  have HR := hide hr
  clear h0 h1 h2 h3 h4 hr
  go_enter Tryz.func21, Tryz.ntmps21
  go_wp2_with fail
  refine (SBooksOk.sBooksOk _ x b0 (unhide S0).r (unhide H0)).mono ?_
  rintro e w1 ⟨rfl, bb⟩
  have S1 := hide ((unhide S0).step bb)
  have B1 := hide (unhide S1).b
  clear bb
  obtain ⟨c0, c1, c2, c3, c4, c5⟩ := (unhide S1).c
  have r0 := (unhide S1).v.c0
  have r1 := (unhide S1).v.c1
  have r2 := (unhide S1).v.c2
  have r3 := (unhide S1).v.c3
  have r4 := (unhide S1).v.c4
  have r5 := (unhide S1).v.c5
  have f0 := (unhide S1).v.free 0
  have f1 := (unhide S1).v.free 1
  have f2 := (unhide S1).v.free 2
  have f3 := (unhide S1).v.free 3
  have f4 := (unhide S1).v.free 4
  have f5 := (unhide S1).v.free 5
  cases b0
  · have N := hide (show ¬ ToldP x.b pp pc py tt from fun hh => (unhide H0).no hh.1)
    go_wp2
    refine bodyPost_ret (v := .tuple #[.agg #[.slice none 0 0, .slice none 0 0, .slice none 0 0, .slice none 0 0, .slice none 0 0, .int .i64 0], .int .i64 0, .int .i64 1]) (by simp [results, Tryz.results21, go_sem, r0, r1, r2, r3, r4, r5]) rfl (.inl ⟨unhide N, rfl, ?_⟩)
    exact six (unhide B1) (by omega) _ _ _ _ _ _
  go_wp2_with fail
  refine (SOk5.sNo pp b1 _ (unhide H1)).mono ?_
  rintro e v1 ⟨rfl, rfl⟩
  cases b1
  · have N := hide (show ¬ ToldP x.b pp pc py tt from fun hh => (unhide H1).no hh.2.1)
    go_wp2
    refine bodyPost_ret (v := .tuple #[.agg #[.slice none 0 0, .slice none 0 0, .slice none 0 0, .slice none 0 0, .slice none 0 0, .int .i64 0], .int .i64 0, .int .i64 1]) (by simp [results, Tryz.results21, go_sem, r0, r1, r2, r3, r4, r5]) rfl (.inl ⟨unhide N, rfl, ?_⟩)
    exact six (unhide B1) (by omega) _ _ _ _ _ _
  go_wp2_with fail
  refine (SOk5.sNo pc b2 _ (unhide H2)).mono ?_
  rintro e v2 ⟨rfl, rfl⟩
  cases b2
  · have N := hide (show ¬ ToldP x.b pp pc py tt from fun hh => (unhide H2).no hh.2.2.1)
    go_wp2
    refine bodyPost_ret (v := .tuple #[.agg #[.slice none 0 0, .slice none 0 0, .slice none 0 0, .slice none 0 0, .slice none 0 0, .int .i64 0], .int .i64 0, .int .i64 1]) (by simp [results, Tryz.results21, go_sem, r0, r1, r2, r3, r4, r5]) rfl (.inl ⟨unhide N, rfl, ?_⟩)
    exact six (unhide B1) (by omega) _ _ _ _ _ _
  go_wp2_with fail
  refine (SOk5.sNo py b3 _ (unhide H3)).mono ?_
  rintro e v3 ⟨rfl, rfl⟩
  cases b3
  · have N := hide (show ¬ ToldP x.b pp pc py tt from fun hh => (unhide H3).no hh.2.2.2.1)
    go_wp2
    refine bodyPost_ret (v := .tuple #[.agg #[.slice none 0 0, .slice none 0 0, .slice none 0 0, .slice none 0 0, .slice none 0 0, .int .i64 0], .int .i64 0, .int .i64 1]) (by simp [results, Tryz.results21, go_sem, r0, r1, r2, r3, r4, r5]) rfl (.inl ⟨unhide N, rfl, ?_⟩)
    exact six (unhide B1) (by omega) _ _ _ _ _ _
  go_wp2_with fail
  refine (SOk5.sSome tt 0 b4 _ (unhide H4)).mono ?_
  rintro e v4 ⟨rfl, rfl⟩
  cases b4
  · have N := hide (show ¬ ToldP x.b pp pc py tt from fun hh => (unhide H4).no hh.2.2.2.2)
    go_wp2
    refine bodyPost_ret (v := .tuple #[.agg #[.slice none 0 0, .slice none 0 0, .slice none 0 0, .slice none 0 0, .slice none 0 0, .int .i64 0], .int .i64 0, .int .i64 1]) (by simp [results, Tryz.results21, go_sem, r0, r1, r2, r3, r4, r5]) rfl (.inl ⟨unhide N, rfl, ?_⟩)
    exact six (unhide B1) (by omega) _ _ _ _ _ _
  have TT := hide (show ToldP x.b pp pc py tt from ⟨(unhide H0).yes, (unhide H1).yes, (unhide H2).yes, (unhide H3).yes, (unhide H4).yes⟩)
  have LI := hide (unhide H0).yes.1
  have SM := hide (ok_small (unhide H0).yes)
  have a1 : 0 ≤ tt := (unhide H4).yes.1
  have a2 : tt ≤ 1000000000000000 := (unhide H4).yes.2
  clear H0 H1 H2 H3 H4 S0
  clear c0 c1 c2 c3 c4 c5 r0 r1 r2 r3 r4 r5 f0 f1 f2 f3 f4 f5
  obtain ⟨K1, hK1⟩ : ∃ K, Hid (kindOf x.b.ac py = K) := ⟨_, rfl⟩
  obtain ⟨K2, hK2⟩ : ∃ K, Hid (kindOf x.b.ic pp = K) := ⟨_, rfl⟩
  obtain ⟨K3, hK3⟩ : ∃ K, Hid (kindOf x.b.ic pc = K) := ⟨_, rfl⟩
  have M1 := trivial
  go_wp2_with fail
  have Q4 := And.intro (unhide S1).c.c0 (unhide S1).c.c1
  go_region_held3 (fun w' => w'.cell? ⟨w.heap.size, 0, none⟩ = some (.slice (some ⟨x.ga, 0, none⟩) x.b.ac.length x.ca) ∧ w'.cell? ⟨w.heap.size, 1, none⟩ = some (.slice (some ⟨x.gi, 0, none⟩) x.b.ic.length x.ci)) (first | exact Q4 | exact Q5 | exact Q6 | exact Q7)
    (first | (go_at_call 31; refine (SBals.sKindA v4.drew x py K1 ((unhide S1).r.below (Below.refl _ _).drew) (unhide LI).1 (unhide hK1)).mono ?_; rintro e u1 ⟨rfl, bb⟩; have bW : Below v4.heap.size v4 u1 := ILotsFit.below_of_drew bb; have T1 := hide ((unhide S1).step bW); have Q5 := And.intro (unhide T1).c.c0 (unhide T1).c.c1; clear bb bW) | (go_at_call 32; clear M1; refine (SBals.sKindI u1 x pp K2 (unhide T1).r (unhide LI).2.1 (unhide hK2)).mono ?_; rintro e u2 ⟨rfl, bb2⟩; have T2 := hide ((unhide T1).step bb2); have Q6 := And.intro (unhide T2).c.c0 (unhide T2).c.c1; clear bb2) | (go_at_call 32; refine (SBals.sKindI u2 x pc K3 (unhide T2).r (unhide LI).2.1 (unhide hK3)).mono ?_; rintro e u3 ⟨rfl, bb3⟩; have S2 := hide ((unhide T2).step bb3); have Q7 := And.intro (unhide S2).c.c0 (unhide S2).c.c1; clear bb3))
  clear Q4 Q5 Q6 Q7 T1 T2
  obtain ⟨c0, c1, c2, c3, c4, c5⟩ := (unhide S2).c
  have r0 := (unhide S2).v.c0
  have r1 := (unhide S2).v.c1
  have r2 := (unhide S2).v.c2
  have r3 := (unhide S2).v.c3
  have r4 := (unhide S2).v.c4
  have r5 := (unhide S2).v.c5
  have f0 := (unhide S2).v.free 0
  have f1 := (unhide S2).v.free 1
  have f2 := (unhide S2).v.free 2
  have f3 := (unhide S2).v.free 3
  have f4 := (unhide S2).v.free 4
  have f5 := (unhide S2).v.free 5
  go_wp2_with fail
  refine (SHeld.sHeld _ x pp (unhide S2).r).mono ?_
  rintro e w3 ⟨who, what, all, ok, gw, cw, gq, cq, ih, wl', wl2', rfl, oa, oc, gne, bb⟩
  have WL := hide wl'
  clear wl' wl2'
  have S3 := hide ((unhide S2).step bb)
  have IH := hide ih
  have OA := hide oa
  have OC := hide oc
  clear bb ih oa oc
  clear c0 c1 c2 c3 c4 c5 r0 r1 r2 r3 r4 r5 f0 f1 f2 f3 f4 f5
  obtain ⟨c0, c1, c2, c3, c4, c5⟩ := (unhide S3).c
  have r0 := (unhide S3).v.c0
  have r1 := (unhide S3).v.c1
  have r2 := (unhide S3).v.c2
  have r3 := (unhide S3).v.c3
  have r4 := (unhide S3).v.c4
  have r5 := (unhide S3).v.c5
  have f0 := (unhide S3).v.free 0
  have f1 := (unhide S3).v.free 1
  have f2 := (unhide S3).v.free 2
  have f3 := (unhide S3).v.free 3
  have f4 := (unhide S3).v.free 4
  have f5 := (unhide S3).v.free 5
  have zero : ((K1 == 0) = true ∨ ((K1 == 0) = false ∧ (K2 == 0) = true) ∨ ((K1 == 0) = false ∧ (K2 == 0) = false ∧ (K3 == 0) = true)) ∧ Hid (PayNone x.b pp pc py) ∨ ((K1 == 0) = false ∧ (K2 == 0) = false ∧ (K3 == 0) = false) ∧ Hid (¬ PayNone x.b pp pc py) := by
    unfold PayNone
    rw [unhide hK1, unhide hK2, unhide hK3]
    by_cases k1 : K1 = 0
    · exact .inl ⟨.inl (eq_true k1), .inl k1⟩
    by_cases k2 : K2 = 0
    · exact .inl ⟨.inr (.inl ⟨eq_false k1, eq_true k2⟩), .inr (.inl k2)⟩
    by_cases k3 : K3 = 0
    · exact .inl ⟨.inr (.inr ⟨eq_false k1, eq_false k2, eq_true k3⟩), .inr (.inr k3)⟩
    · exact .inr ⟨⟨eq_false k1, eq_false k2, eq_false k3⟩, fun hh => by omega⟩
  obtain ⟨Z, ZZ⟩ | ⟨⟨m1, m2, m3⟩, NZ⟩ := zero
  · have I3 := hide (show IsPay x.b pp pc py tt x.b 0 3 from .inl ⟨unhide ZZ, rfl, rfl, rfl⟩)
    clear hK1 hK2 hK3 ZZ IH OA OC
    obtain m1 | ⟨m1, m2⟩ | ⟨m1, m2, m3⟩ := Z
    all_goals
      go_wp2_with fail
      refine (SCopy.sCopy _ x (unhide S3).r).mono ?_
      rintro e w8 ⟨z, hz, rfl, oz, bb⟩
      have S8 := hide ((unhide S3).step bb)
      have OZ := hide (oz.rebase (unhide S3).b.size)
      have LZ := hide (ow_lo oz)
      have zl := (unhide S3).v.lt.2
      have IZ := hide (show IsPay x.b pp pc py tt z.b 0 3 from by rw [hz]; exact (unhide I3))
      clear bb oz hz
      clear c0 c1 c2 c3 c4 c5 r0 r1 r2 r3 r4 r5 f0 f1 f2 f3 f4 f5
      obtain ⟨c0, c1, c2, c3, c4, c5⟩ := (unhide S8).c
      have r0 := (unhide S8).v.c0
      have r1 := (unhide S8).v.c1
      have r2 := (unhide S8).v.c2
      have r3 := (unhide S8).v.c3
      have r4 := (unhide S8).v.c4
      have r5 := (unhide S8).v.c5
      have f0 := (unhide S8).v.free 0
      have f1 := (unhide S8).v.free 1
      have f2 := (unhide S8).v.free 2
      have f3 := (unhide S8).v.free 3
      have f4 := (unhide S8).v.free 4
      have f5 := (unhide S8).v.free 5
      go_wp2
      refine bodyPost_ret (v := .tuple #[.agg #[.slice (some ⟨z.ga, 0, none⟩) z.b.ac.length z.ca, .slice (some ⟨z.gi, 0, none⟩) z.b.ic.length z.ci, .slice (some ⟨z.gb, 0, none⟩) z.b.bs.length z.cb, .slice (some ⟨z.gl, 0, none⟩) z.b.ls.length z.cl, .slice (some ⟨z.gt, 0, none⟩) z.b.ts.length z.ct, .int .i64 z.b.lot], .int .i64 0, .int .i64 3]) (by simp [results, Tryz.results21, go_sem, r0, r1, r2, r3, r4, r5]) rfl (.inr ⟨unhide TT, z, 0, 3, unhide IZ, rfl, ?_, ?_⟩)
      · exact ow_six (unhide OZ) (off_lo (unhide LZ) zl) _ _ _ _ _ _
      · exact six (unhide S8).b (by omega) _ _ _ _ _ _
  have kinds : ((K1 != 2) = true ∨ ((K1 != 2) = false ∧ (K2 != 2) = true) ∨ ((K1 != 2) = false ∧ (K2 != 2) = false ∧ (K3 != 1) = true)) ∧ Hid (PayKind x.b pp pc py) ∨ ((K1 != 2) = false ∧ (K2 != 2) = false ∧ (K3 != 1) = false) ∧ Hid (¬ PayKind x.b pp pc py) := by
    unfold PayKind
    rw [unhide hK1, unhide hK2, unhide hK3]
    by_cases k1 : K1 = 2
    · by_cases k2 : K2 = 2
      · by_cases k3 : K3 = 1
        · exact .inr ⟨⟨ne_false k1, ne_false k2, ne_false k3⟩, fun hh => by omega⟩
        · exact .inl ⟨.inr (.inr ⟨ne_false k1, ne_false k2, ne_true k3⟩), .inr (.inr k3)⟩
      · exact .inl ⟨.inr (.inl ⟨ne_false k1, ne_true k2⟩), .inr (.inl k2)⟩
    · exact .inl ⟨.inl (ne_true k1), .inl k1⟩
  obtain ⟨Z, ZZ⟩ | ⟨⟨q1, q2, q3⟩, NK⟩ := kinds
  · have I4 := hide (show IsPay x.b pp pc py tt x.b 0 4 from .inr (.inl ⟨unhide NZ, unhide ZZ, rfl, rfl, rfl⟩))
    clear hK1 hK2 hK3 ZZ NZ IH OA OC
    obtain q1 | ⟨q1, q2⟩ | ⟨q1, q2, q3⟩ := Z
    all_goals
      go_wp2_with fail
      refine (SCopy.sCopy _ x (unhide S3).r).mono ?_
      rintro e w8 ⟨z, hz, rfl, oz, bb⟩
      have S8 := hide ((unhide S3).step bb)
      have OZ := hide (oz.rebase (unhide S3).b.size)
      have LZ := hide (ow_lo oz)
      have zl := (unhide S3).v.lt.2
      have IZ := hide (show IsPay x.b pp pc py tt z.b 0 4 from by rw [hz]; exact (unhide I4))
      clear bb oz hz
      clear c0 c1 c2 c3 c4 c5 r0 r1 r2 r3 r4 r5 f0 f1 f2 f3 f4 f5
      obtain ⟨c0, c1, c2, c3, c4, c5⟩ := (unhide S8).c
      have r0 := (unhide S8).v.c0
      have r1 := (unhide S8).v.c1
      have r2 := (unhide S8).v.c2
      have r3 := (unhide S8).v.c3
      have r4 := (unhide S8).v.c4
      have r5 := (unhide S8).v.c5
      have f0 := (unhide S8).v.free 0
      have f1 := (unhide S8).v.free 1
      have f2 := (unhide S8).v.free 2
      have f3 := (unhide S8).v.free 3
      have f4 := (unhide S8).v.free 4
      have f5 := (unhide S8).v.free 5
      go_wp2
      refine bodyPost_ret (v := .tuple #[.agg #[.slice (some ⟨z.ga, 0, none⟩) z.b.ac.length z.ca, .slice (some ⟨z.gi, 0, none⟩) z.b.ic.length z.ci, .slice (some ⟨z.gb, 0, none⟩) z.b.bs.length z.cb, .slice (some ⟨z.gl, 0, none⟩) z.b.ls.length z.cl, .slice (some ⟨z.gt, 0, none⟩) z.b.ts.length z.ct, .int .i64 z.b.lot], .int .i64 0, .int .i64 4]) (by simp [results, Tryz.results21, go_sem, r0, r1, r2, r3, r4, r5]) rfl (.inr ⟨unhide TT, z, 0, 4, unhide IZ, rfl, ?_, ?_⟩)
      · exact ow_six (unhide OZ) (off_lo (unhide LZ) zl) _ _ _ _ _ _
      · exact six (unhide S8).b (by omega) _ _ _ _ _ _
  clear hK1 hK2 hK3
  cases ok
  · have I8 := hide (show IsPay x.b pp pc py tt x.b 0 8 from .inr (.inr ⟨unhide NZ, unhide NK, who, what, all, false, unhide IH, .inl ⟨rfl, rfl, rfl, rfl⟩⟩))
    clear NZ NK IH OA OC
    go_wp2_with fail
    refine (SCopy.sCopy _ x (unhide S3).r).mono ?_
    rintro e w8 ⟨z, hz, rfl, oz, bb⟩
    have S8 := hide ((unhide S3).step bb)
    have OZ := hide (oz.rebase (unhide S3).b.size)
    have LZ := hide (ow_lo oz)
    have zl := (unhide S3).v.lt.2
    have IZ := hide (show IsPay x.b pp pc py tt z.b 0 8 from by rw [hz]; exact (unhide I8))
    clear bb oz hz
    clear c0 c1 c2 c3 c4 c5 r0 r1 r2 r3 r4 r5 f0 f1 f2 f3 f4 f5
    obtain ⟨c0, c1, c2, c3, c4, c5⟩ := (unhide S8).c
    have r0 := (unhide S8).v.c0
    have r1 := (unhide S8).v.c1
    have r2 := (unhide S8).v.c2
    have r3 := (unhide S8).v.c3
    have r4 := (unhide S8).v.c4
    have r5 := (unhide S8).v.c5
    have f0 := (unhide S8).v.free 0
    have f1 := (unhide S8).v.free 1
    have f2 := (unhide S8).v.free 2
    have f3 := (unhide S8).v.free 3
    have f4 := (unhide S8).v.free 4
    have f5 := (unhide S8).v.free 5
    go_wp2
    refine bodyPost_ret (v := .tuple #[.agg #[.slice (some ⟨z.ga, 0, none⟩) z.b.ac.length z.ca, .slice (some ⟨z.gi, 0, none⟩) z.b.ic.length z.ci, .slice (some ⟨z.gb, 0, none⟩) z.b.bs.length z.cb, .slice (some ⟨z.gl, 0, none⟩) z.b.ls.length z.cl, .slice (some ⟨z.gt, 0, none⟩) z.b.ts.length z.ct, .int .i64 z.b.lot], .int .i64 0, .int .i64 8]) (by simp [results, Tryz.results21, go_sem, r0, r1, r2, r3, r4, r5]) rfl (.inr ⟨unhide TT, z, 0, 8, unhide IZ, rfl, ?_, ?_⟩)
    · exact ow_six (unhide OZ) (off_lo (unhide LZ) zl) _ _ _ _ _ _
    · exact six (unhide S8).b (by omega) _ _ _ _ _ _
  by_cases hn : who = []
  · have I5 := hide (show IsPay x.b pp pc py tt x.b 0 5 from .inr (.inr ⟨unhide NZ, unhide NK, who, what, all, true, unhide IH, .inr (.inl ⟨rfl, hn, rfl, rfl, rfl⟩)⟩))
    have lb : ((who.length : Int) == 0) = true := by rw [hn]; rfl
    clear NZ NK IH OA OC hn
    go_wp2_with fail
    refine (SCopy.sCopy _ x (unhide S3).r).mono ?_
    rintro e w8 ⟨z, hz, rfl, oz, bb⟩
    have S8 := hide ((unhide S3).step bb)
    have OZ := hide (oz.rebase (unhide S3).b.size)
    have LZ := hide (ow_lo oz)
    have zl := (unhide S3).v.lt.2
    have IZ := hide (show IsPay x.b pp pc py tt z.b 0 5 from by rw [hz]; exact (unhide I5))
    clear bb oz hz
    clear c0 c1 c2 c3 c4 c5 r0 r1 r2 r3 r4 r5 f0 f1 f2 f3 f4 f5
    obtain ⟨c0, c1, c2, c3, c4, c5⟩ := (unhide S8).c
    have r0 := (unhide S8).v.c0
    have r1 := (unhide S8).v.c1
    have r2 := (unhide S8).v.c2
    have r3 := (unhide S8).v.c3
    have r4 := (unhide S8).v.c4
    have r5 := (unhide S8).v.c5
    have f0 := (unhide S8).v.free 0
    have f1 := (unhide S8).v.free 1
    have f2 := (unhide S8).v.free 2
    have f3 := (unhide S8).v.free 3
    have f4 := (unhide S8).v.free 4
    have f5 := (unhide S8).v.free 5
    go_wp2
    refine bodyPost_ret (v := .tuple #[.agg #[.slice (some ⟨z.ga, 0, none⟩) z.b.ac.length z.ca, .slice (some ⟨z.gi, 0, none⟩) z.b.ic.length z.ci, .slice (some ⟨z.gb, 0, none⟩) z.b.bs.length z.cb, .slice (some ⟨z.gl, 0, none⟩) z.b.ls.length z.cl, .slice (some ⟨z.gt, 0, none⟩) z.b.ts.length z.ct, .int .i64 z.b.lot], .int .i64 0, .int .i64 5]) (by simp [results, Tryz.results21, go_sem, r0, r1, r2, r3, r4, r5]) rfl (.inr ⟨unhide TT, z, 0, 5, unhide IZ, rfl, ?_, ?_⟩)
    · exact ow_six (unhide OZ) (off_lo (unhide LZ) zl) _ _ _ _ _ _
    · exact six (unhide S8).b (by omega) _ _ _ _ _ _
  have lb : ((who.length : Int) == 0) = false := by
    have := List.length_pos_iff.2 hn
    exact eq_false (by omega)
  obtain ⟨good, _, hwl', h20, hno, _, _⟩ := held_good (unhide IH) hn
  clear hwl'
  have GD := hide good
  have NO := hide hno
  have HN := hide hn
  have tot' := hide (show Quota.Tot tt from ⟨a1, a2⟩)
  clear good hno hn
  go_wp2_with fail
  refine (SShares.sShares_good _ tt gq what.length cq what rfl (unhide OC).lt.2 (unhide OC).at (unhide GD) (unhide tot')).mono ?_
  rintro e w5 ⟨L, MM, gs, cs, ord, hM, hMn, rfl, o3, bb⟩
  obtain ⟨ps, hps⟩ : ∃ ps, Hid (bump (wholes tt what what.length) L MM = ps) := ⟨_, rfl⟩
  rw [unhide hps] at o3
  have ST := hide (show STells tt what ps true from .inl ⟨unhide GD, unhide tot', rfl, L, MM, ord, hM, hMn, (unhide hps).symm⟩)
  have S4 := hide ((unhide S3).step bb)
  have OA4 := hide ((unhide OA).below bb (unhide OA).lt.2).at
  have gwl : gw < w5.heap.size := Nat.lt_of_lt_of_le (unhide OA).lt.2 bb.size
  have OS := hide o3
  have gsl : gs < w5.heap.size := o3.lt.2
  obtain ⟨pt, pl', pb⟩ := shares_tot (unhide ST) rfl
  have PL := hide pl'
  clear pl'
  have PT := hide pt
  have PB := hide pb
  have w53 := bb.size
  clear bb o3 ord hM hMn hps pt pb OA OC GD tot' L MM
  clear c0 c1 c2 c3 c4 c5 r0 r1 r2 r3 r4 r5 f0 f1 f2 f3 f4 f5
  have OL0 := hide (own_leg w5 py pc (-tt))
  have B50 := hide (one_more w5 (.cells #[.int .i64 py, .int .i64 pc, .int .i64 (-tt)] 80))
  go_wp2
  go_loopw [22, 23] (fun l j wr => ∃ (ls : List T3) (g c k : Nat), l = .slice (some ⟨g, 0, none⟩) ls.length c ∧ j = .int .i64 k ∧ k ≤ who.length ∧ Hid (ls = (py, pc, -tt) :: legsW pc (who.take k) (ps.take k)) ∧ Hid (ls.length = k + 1) ∧ Hid (Own3 80 wr w5.heap.size g ls.length c ls) ∧ w5.heap.size ≤ g ∧ Hid (Below w5.heap.size w5 wr)) (fun _ j _ => who.length - (intOf j).toNat)
  case atStart => exact ⟨[(py, pc, -tt)], w5.heap.size, 1, 0, rfl, rfl, by omega, hide (by simp [legsW]), hide rfl, OL0, Nat.le_refl _, B50⟩
  case round =>
    clear OL0 B50
    obtain ⟨ls, g, c, k, rfl, rfl, hk, HL, HLL, OL, hg, HB⟩ := hrel
    have wz1 := (unhide HB).size
    by_cases t : k < who.length
    · have e0 := ((unhide OA4).below (unhide HB) gwl) k t
      have e1 := ((unhide OS).at.below (unhide HB) gsl) k (by have := unhide WL; have := unhide PL; omega)
      have TN := hide (legsW_next (i := pc) (who := who) (ps := ps) (k := k) t (by have := unhide WL; have := unhide PL; omega))
      obtain ⟨y0, hy0⟩ : ∃ q, Hid (who.getD k 0 = q) := ⟨_, rfl⟩
      obtain ⟨y2, hy2⟩ : ∃ q, Hid (ps.getD k 0 = q) := ⟨_, rfl⟩
      rw [unhide hy0] at e0 TN
      rw [unhide hy2] at e1 TN
      clear hy0 hy2
      have K4 := And.intro e0 e1
      have AO := hide (one_more wr (.cells #[.int .i64 y0, .int .i64 pc, .int .i64 y2] 80))
      have K5 := And.intro (((unhide AO).cell (p := ⟨gw, k, none⟩) (show gw < wr.heap.size by omega)).trans e0) (((unhide AO).cell (p := ⟨gs, k, none⟩) (show gs < wr.heap.size by omega)).trans e1)
      have OG5 := hide ((unhide OL).alloc (.cells #[.int .i64 y0, .int .i64 pc, .int .i64 y2] 80))
      have X5 := hide (show At3 (wr.alloc (.cells #[.int .i64 y0, .int .i64 pc, .int .i64 y2] 80)) wr.heap.size [(y0, pc, y2)] from by
        intro i hi
        obtain rfl : i = 0 := by simpa using hi
        simp [Holds3])
      have ne1 : some gw ≠ some g := fun e => by injection e; omega
      have ne2 : some gs ≠ some g := fun e => by injection e; omega
      have i2 : (k : Int) < (what.length : Int) := by have := unhide WL; omega
      have lsl : ls.length ≤ 100 := by have := unhide HLL; omega
      go_wp2_with fail
      go_region_held3 (fun w' => w'.cell? ⟨gw, k, none⟩ = some (.int .i64 y0) ∧ w'.cell? ⟨gs, k, none⟩ = some (.int .i64 y2)) (first | exact K4 | exact K5 | exact K6)
        (first | (refine SLegs.step_cat3 _ (by rfl) _ _ (by rfl) w5.heap.size g ls.length c 1 ls [(y0, pc, y2)] wr.heap.size 1 (by rfl) (by rfl) (by exact unhide OG5) (by rfl) (by exact unhide X5) (by omega) (by simp; omega) ?_; intro g5 c5 w6 o5 gr5 loc5; have O5 := hide o5; have GR := hide gr5; have LOC := hide loc5; have K6 := And.intro (gr5.cell K5.1 ne1) (gr5.cell K5.2 ne2); clear o5 gr5 loc5))
      clear K4 K5 K6 e0 e1
      have B5 := hide (((unhide HB).trans ((unhide AO).mono wz1)).drew.grown (unhide GR) (by simp; omega) (fun i e => by injection e; omega))
      have g6 : w5.heap.size ≤ g5 := by
        rcases unhide LOC with e | e
        · omega
        · rw [e]; simp; omega
      go_wp2
      go_roundw
      case rel => exact ⟨ls ++ [(y0, pc, y2)], g5, c5, k + 1, by rw [show (ls ++ [(y0, pc, y2)]).length = ls.length + 1 by simp], by go_num, by omega, hide (by rw [unhide TN, unhide HL]; rfl), hide (by have := unhide HLL; simp; omega), hide (by rw [show (ls ++ [(y0, pc, y2)]).length = ls.length + 1 by simp]; exact unhide O5), g6, B5⟩
      case measure => simp [intOf]; omega
    · obtain rfl : k = who.length := by omega
      have EL := hide (show ls = legsP py pc tt who ps from by
        rw [unhide HL, List.take_length, List.take_of_length_le (by have := unhide WL; have := unhide PL; omega)]; rfl)
      have S5 := hide ((unhide S4).step (unhide HB))
      have LF := hide (show Bals.Formed ls from by rw [unhide EL]; exact legsP_formed (unhide TT).2.2.2.1 (unhide TT).2.2.1 a1 a2 (by have := unhide WL; have := unhide PL; omega) h20 (unhide NO) (unhide PB))
      have LE := hide (show Bals.Even ls from by rw [unhide EL]; exact legsP_even (by have := unhide WL; have := unhide PL; omega) (unhide PT))
      clear HL HB OA4 OS PB NO PT
      obtain ⟨c0, c1, c2, c3, c4, c5⟩ := (unhide S5).c
      have r0 := (unhide S5).v.c0
      have r1 := (unhide S5).v.c1
      have r2 := (unhide S5).v.c2
      have r3 := (unhide S5).v.c3
      have r4 := (unhide S5).v.c4
      have r5 := (unhide S5).v.c5
      have f0 := (unhide S5).v.free 0
      have f1 := (unhide S5).v.free 1
      have f2 := (unhide S5).v.free 2
      have f3 := (unhide S5).v.free 3
      have f4 := (unhide S5).v.free 4
      have f5 := (unhide S5).v.free 5
      go_wp2_with fail
      refine (SCopy.sCopy _ x (unhide S5).r).mono ?_
      rintro e w6 ⟨zc, hzc, rfl, oz, bb⟩
      have S6 := hide ((unhide S5).step bb)
      have OZ := hide (oz.rebase (unhide S5).b.size)
      have O3 := hide ((unhide OL).below bb (unhide OL).lt.2)
      have HZ := hide hzc
      clear bb oz hzc OL
      go_wp2_with fail
      refine (sPost w6 w.heap.size zc g c ls (unhide OZ) (by rw [unhide HZ]; exact unhide LI) (by rw [unhide HZ]; exact unhide SM) (by have := unhide HLL; omega) (unhide O3).lt.2 (unhide O3).at (unhide LF) (unhide LE)).mono ?_
      rintro e w7 ⟨y, k1, hpo, rfl, oy, bb⟩
      rw [unhide HZ] at hpo
      have HP := hide hpo
      rw [unhide EL] at HP
      have S7 := hide ((unhide S6).step bb)
      have S8' := hide ((unhide S7).step (one_more w7 (.cells #[.slice (some ⟨y.ga, 0, none⟩) y.b.ac.length y.ca, .slice (some ⟨y.gi, 0, none⟩) y.b.ic.length y.ci, .slice (some ⟨y.gb, 0, none⟩) y.b.bs.length y.cb, .slice (some ⟨y.gl, 0, none⟩) y.b.ls.length y.cl, .slice (some ⟨y.gt, 0, none⟩) y.b.ts.length y.ct, .int .i64 y.b.lot] 36)))
      have OY := hide oy
      have s7l := (unhide S7).v.lt
      have ne7 : w.heap.size + 1 ≠ w7.heap.size := by omega
      have ne8 : w.heap.size ≠ w7.heap.size := by omega
      clear bb hpo oy c0 c1 c2 c3 c4 c5 r0 r1 r2 r3 r4 r5 f0 f1 f2 f3 f4 f5 EL LF LE
      by_cases kz : k1 = 0
      · subst kz
        have IZ := hide (show IsPay x.b pp pc py tt y.b (who.length : Int) 0 from .inr (.inr ⟨unhide NZ, unhide NK, who, what, all, true, unhide IH, .inr (.inr ⟨rfl, unhide HN, ps, unhide ST, y.b, 0, unhide HP, .inr ⟨rfl, rfl, rfl, rfl⟩⟩)⟩))
        have F7 := hide (off_box (unhide OY) (unhide S7).v)
        clear NZ NK IH HP ST
        obtain ⟨c0, c1, c2, c3, c4, c5⟩ := (unhide S7).c
        have r0 := (unhide S7).v.c0
        have r1 := (unhide S7).v.c1
        have r2 := (unhide S7).v.c2
        have r3 := (unhide S7).v.c3
        have r4 := (unhide S7).v.c4
        have r5 := (unhide S7).v.c5
        have f0 := (unhide S7).v.free 0
        have f1 := (unhide S7).v.free 1
        have f2 := (unhide S7).v.free 2
        have f3 := (unhide S7).v.free 3
        have f4 := (unhide S7).v.free 4
        have f5 := (unhide S7).v.free 5
        go_wp2
        refine to_wb (fun W => Box W w.heap.size (w.heap.size + 1) (.slice (some ⟨y.ga, 0, none⟩) y.b.ac.length y.ca) (.slice (some ⟨y.gi, 0, none⟩) y.b.ic.length y.ci) (.slice (some ⟨y.gb, 0, none⟩) y.b.bs.length y.cb) (.slice (some ⟨y.gl, 0, none⟩) y.b.ls.length y.cl) (.slice (some ⟨y.gt, 0, none⟩) y.b.ts.length y.ct) (.int .i64 y.b.lot) ∧ Ow W w.heap.size y ∧ Below w.heap.size w W) ⟨box_six_alloc (unhide S7).v _ _ _ _ _ _ _, ow_six_alloc (unhide OY) (unhide F7) (Nat.le_refl _) _ _ _ _ _ _ _, six_alloc (unhide S7).b (unhide S7).b.size (by omega) _ _ _ _ _ _ _⟩ ?_
        rintro W ⟨X, OW, B⟩
        have g0 := X.c0
        have g1 := X.c1
        have g2 := X.c2
        have g3 := X.c3
        have g4 := X.c4
        have g5 := X.c5
        exact bodyPost_ret (v := .tuple #[.agg #[.slice (some ⟨y.ga, 0, none⟩) y.b.ac.length y.ca, .slice (some ⟨y.gi, 0, none⟩) y.b.ic.length y.ci, .slice (some ⟨y.gb, 0, none⟩) y.b.bs.length y.cb, .slice (some ⟨y.gl, 0, none⟩) y.b.ls.length y.cl, .slice (some ⟨y.gt, 0, none⟩) y.b.ts.length y.ct, .int .i64 y.b.lot], .int .i64 who.length, .int .i64 0]) (by simp [results, Tryz.results21, go_sem, g0, g1, g2, g3, g4, g5]) rfl (.inr ⟨unhide TT, y, who.length, 0, unhide IZ, rfl, OW, B⟩)
      · have kb : (k1 != 0) = true := ne_true kz
        have IE := hide (show IsPay x.b pp pc py tt x.b 0 k1 from .inr (.inr ⟨unhide NZ, unhide NK, who, what, all, true, unhide IH, .inr (.inr ⟨rfl, unhide HN, ps, unhide ST, y.b, k1, unhide HP, .inl ⟨kz, rfl, rfl, rfl⟩⟩)⟩))
        clear NZ NK IH HP kz ST
        obtain ⟨c0, c1, c2, c3, c4, c5⟩ := (unhide S8').c
        have r0 := (unhide S8').v.c0
        have r1 := (unhide S8').v.c1
        have r2 := (unhide S8').v.c2
        have r3 := (unhide S8').v.c3
        have r4 := (unhide S8').v.c4
        have r5 := (unhide S8').v.c5
        have f0 := (unhide S8').v.free 0
        have f1 := (unhide S8').v.free 1
        have f2 := (unhide S8').v.free 2
        have f3 := (unhide S8').v.free 3
        have f4 := (unhide S8').v.free 4
        have f5 := (unhide S8').v.free 5
        go_wp2_with fail
        refine (SCopy.sCopy _ x (unhide S8').r).mono ?_
        rintro e w8 ⟨z, hz, rfl, oz, bb⟩
        have S8 := hide ((unhide S8').step bb)
        have OZ := hide (oz.rebase (unhide S8').b.size)
        have LZ := hide (ow_lo oz)
        have zl := (unhide S8').v.lt.2
        have IZ := hide (show IsPay x.b pp pc py tt z.b 0 k1 from by rw [hz]; exact (unhide IE))
        clear bb oz hz
        clear c0 c1 c2 c3 c4 c5 r0 r1 r2 r3 r4 r5 f0 f1 f2 f3 f4 f5
        obtain ⟨c0, c1, c2, c3, c4, c5⟩ := (unhide S8).c
        have r0 := (unhide S8).v.c0
        have r1 := (unhide S8).v.c1
        have r2 := (unhide S8).v.c2
        have r3 := (unhide S8).v.c3
        have r4 := (unhide S8).v.c4
        have r5 := (unhide S8).v.c5
        have f0 := (unhide S8).v.free 0
        have f1 := (unhide S8).v.free 1
        have f2 := (unhide S8).v.free 2
        have f3 := (unhide S8).v.free 3
        have f4 := (unhide S8).v.free 4
        have f5 := (unhide S8).v.free 5
        go_wp2
        refine bodyPost_ret (v := .tuple #[.agg #[.slice (some ⟨z.ga, 0, none⟩) z.b.ac.length z.ca, .slice (some ⟨z.gi, 0, none⟩) z.b.ic.length z.ci, .slice (some ⟨z.gb, 0, none⟩) z.b.bs.length z.cb, .slice (some ⟨z.gl, 0, none⟩) z.b.ls.length z.cl, .slice (some ⟨z.gt, 0, none⟩) z.b.ts.length z.ct, .int .i64 z.b.lot], .int .i64 0, .int .i64 k1]) (by simp [results, Tryz.results21, go_sem, r0, r1, r2, r3, r4, r5]) rfl (.inr ⟨unhide TT, z, 0, k1, unhide IZ, rfl, ?_, ?_⟩)
        · exact ow_six (unhide OZ) (off_lo (unhide LZ) zl) _ _ _ _ _ _
        · exact six (unhide S8).b (by omega) _ _ _ _ _ _
end Go.Proofs.YtnmeiiaipacplaaGreat.SPay
namespace Go.Proofs
open Go.Shelf
def Tryz.sortI_ren : Go.Shelf.Ren := ⟨fun | 6 => 215 | 15 => 192 | 14 => 222 | 28 => 213 | 29 => 214 | 20 => 224 | 21 => 225 | 22 => 226 | 23 => 227 | 24 => 228 | 25 => 229 | 26 => 230 | 27 => 231 | 46 => 232 | 47 => 218 | 48 => 219 | 49 => 233 | 50 => 234 | 57 => 235 | n => n, fun | 22 => 43 | 24 => 3 | 25 => 207 | 3 => 3 | 39 => 169 | 0 => 0 | 53 => 170 | 55 => 130 | 4 => 4 | 46 => 222 | 45 => 221 | 50 => 136 | 5 => 5 | 9 => 9 | 66 => 231 | 70 => 235 | 76 => 238 | 77 => 102 | n => n, fun | n => n⟩
theorem Tryz.sortI : Go.Proofs.SlLaysF.n6 Tryz.prog Tryz.sortI_ren := {
  mixed := by kernel_rfl
  f6 := ⟨Tryz.f215.name, by decide, Tryz.func215.trans (congrArg some (by kernel_rfl))⟩
  f14 := ⟨Tryz.f222.name, by decide, Tryz.func222.trans (congrArg some (by kernel_rfl))⟩
  f15 := Tryz.func192.trans (congrArg some (by kernel_rfl))
  f20 := ⟨Tryz.f224.name, by decide, Tryz.func224.trans (congrArg some (by kernel_rfl))⟩
  f21 := ⟨Tryz.f225.name, by decide, Tryz.func225.trans (congrArg some (by kernel_rfl))⟩
  f22 := ⟨Tryz.f226.name, by decide, Tryz.func226.trans (congrArg some (by kernel_rfl))⟩
  f23 := ⟨Tryz.f227.name, by decide, Tryz.func227.trans (congrArg some (by kernel_rfl))⟩
  f24 := ⟨Tryz.f228.name, by decide, Tryz.func228.trans (congrArg some (by kernel_rfl))⟩
  f25 := ⟨Tryz.f229.name, by decide, Tryz.func229.trans (congrArg some (by kernel_rfl))⟩
  f26 := ⟨Tryz.f230.name, by decide, Tryz.func230.trans (congrArg some (by kernel_rfl))⟩
  f27 := ⟨Tryz.f231.name, by decide, Tryz.func231.trans (congrArg some (by kernel_rfl))⟩
  f28 := Tryz.func213.trans (congrArg some (by kernel_rfl))
  f29 := Tryz.func214.trans (congrArg some (by kernel_rfl))
  f46 := ⟨Tryz.f232.name, by decide, Tryz.func232.trans (congrArg some (by kernel_rfl))⟩
  f47 := Tryz.func218.trans (congrArg some (by kernel_rfl))
  f48 := Tryz.func219.trans (congrArg some (by kernel_rfl))
  f49 := ⟨Tryz.f233.name, by decide, Tryz.func233.trans (congrArg some (by kernel_rfl))⟩
  f50 := ⟨Tryz.f234.name, by decide, Tryz.func234.trans (congrArg some (by kernel_rfl))⟩
  f57 := ⟨Tryz.f235.name, by decide, Tryz.func235.trans (congrArg some (by kernel_rfl))⟩
  t0 := Tryz.underlying0
  a0 := Tryz.isAgg0
  z0 := Tryz.sizeOf0
  v0 := Tryz.zeroValue0
  t3 := Tryz.underlying3
  a3 := Tryz.isAgg3
  z3 := Tryz.sizeOf3
  v3 := Tryz.zeroValue3
  t4 := Tryz.underlying4
  a4 := Tryz.isAgg4
  z4 := Tryz.sizeOf4
  v4 := Tryz.zeroValue4
  t5 := Tryz.underlying5
  a5 := Tryz.isAgg5
  z5 := Tryz.sizeOf5
  v5 := Tryz.zeroValue5
  t9 := Tryz.underlying9
  a9 := Tryz.isAgg9
  z9 := Tryz.sizeOf9
  v9 := Tryz.zeroValue9
  t22 := Tryz.underlying43
  a22 := Tryz.isAgg43
  z22 := Tryz.sizeOf43
  v22 := Tryz.zeroValue43
  a24 := Tryz.isAgg3
  z24 := Tryz.sizeOf3
  t25 := Tryz.underlying207
  a25 := Tryz.isAgg207
  z25 := Tryz.sizeOf207
  v25 := Tryz.zeroValue207
  t39 := Tryz.underlying169
  a39 := Tryz.isAgg169
  z39 := Tryz.sizeOf169
  v39 := Tryz.zeroValue169
  t45 := Tryz.underlying221
  a45 := Tryz.isAgg221
  z45 := Tryz.sizeOf221
  v45 := Tryz.zeroValue221
  t46 := Tryz.underlying222
  a46 := Tryz.isAgg222
  z46 := Tryz.sizeOf222
  v46 := Tryz.zeroValue222
  t50 := Tryz.underlying136
  a50 := Tryz.isAgg136
  z50 := Tryz.sizeOf136
  v50 := Tryz.zeroValue136
  t53 := Tryz.underlying170
  a53 := Tryz.isAgg170
  z53 := Tryz.sizeOf170
  v53 := Tryz.zeroValue170
  t55 := Tryz.underlying130
  a55 := Tryz.isAgg130
  z55 := Tryz.sizeOf130
  v55 := Tryz.zeroValue130
  t66 := Tryz.underlying231
  a66 := Tryz.isAgg231
  z66 := Tryz.sizeOf231
  v66 := Tryz.zeroValue231
  t70 := Tryz.underlying235
  a70 := Tryz.isAgg235
  z70 := Tryz.sizeOf235
  v70 := Tryz.zeroValue235
  t76 := Tryz.underlying238
  a76 := Tryz.isAgg238
  z76 := Tryz.sizeOf238
  v76 := Tryz.zeroValue238
  t77 := Tryz.underlying102
  a77 := Tryz.isAgg102
  z77 := Tryz.sizeOf102
  v77 := Tryz.zeroValue102 }
end Go.Proofs
namespace Go.Proofs.YtnmeiiaipacplaaGreat.ISort
open Go.ChangeShapes Go.WideShapes Go.ChangeAt Go.RowKit Ints Weigh Quota Order ICmp
open Go.Sort (putRow putCells mapBlock onCells Holds SWO PermIn SortedIn grow)
def enc {n : Nat} (x : Fin n) : Value := .int .i64 ((x.val : Nat) : Int)
theorem swo (t : Int) (xs : List Int) (m : Nat) : SWO (ltOf (cf t xs (n := m))) where
  irrefl x := by
    unfold ltOf
    rw [decide_eq_false_iff_not, cf_neg]
    intro h; exact h.asymm h
  trans x y z h1 h2 := by
    unfold ltOf at *
    rw [decide_eq_true_eq, cf_neg] at *
    unfold Ahead at *
    omega
  ntrans x y z h1 h2 := by
    unfold ltOf at *
    rw [decide_eq_false_iff_not, cf_neg] at *
    unfold Ahead at *
    omega
theorem sortWorld_other {n : Nat} [Inhabited (Fin n)] (w : World) (blk q : Nat) (d : Array (Fin n)) (os : Array Obj) (k : Nat) (hk : k < w.heap.size) (hne : k ≠ blk) : (sortWorld enc w blk 0 q d os).heap[k]? = w.heap[k]? := by
  have h1 : (sortWorld enc w blk 0 q d os).heap = (w.heap.modify blk (onCells (putCells enc 0 d))) ++ os := rfl
  rw [h1, Array.getElem?_append_left (by simpa using hk), Array.getElem?_modify, if_neg (Ne.symm hne)]
theorem sortWorld_same {n : Nat} [Inhabited (Fin n)] (w : World) (blk q : Nat) (d : Array (Fin n)) (os : Array Obj) (cur : Array Value) (e : TypeId) (fr : Nat × Nat) (h : w.heap[blk]? = some (.cells cur e fr)) : (sortWorld enc w blk 0 q d os).heap[blk]? = some (.cells (putCells enc 0 d cur) e fr) := by
  have h1 : (sortWorld enc w blk 0 q d os).heap = (w.heap.modify blk (onCells (putCells enc 0 d))) ++ os := rfl
  have hb : blk < w.heap.size := (Array.getElem?_eq_some_iff.1 h).1
  rw [h1, Array.getElem?_append_left (by simpa using hb), Array.getElem?_modify, if_pos rfl, h]
  rfl
theorem sortWorld_below {n : Nat} [Inhabited (Fin n)] (w : World) (blk q : Nat) (d : Array (Fin n)) (os : Array Obj) (hb : blk < w.heap.size) : Below blk w (sortWorld enc w blk 0 q d os) := by
  refine ⟨rfl, rfl, rfl, ?_, fun k hk => ?_⟩
  · have h1 : (sortWorld enc w blk 0 q d os).heap = (w.heap.modify blk (onCells (putCells enc 0 d))) ++ os := rfl
    rw [h1]; simp
  · exact sortWorld_other w blk q d os k (by omega) (by omega)
theorem putCells_all {n : Nat} [Inhabited (Fin n)] (d : Array (Fin n)) (cur : Array Value) (h : cur.size = d.size) : (putCells enc 0 d cur).toList = (ints (d.toList.map Fin.val)).map (Value.int .i64) := by
  apply List.ext_getElem?
  intro i
  by_cases hi : i < d.size
  · have e1 : (putCells enc 0 d cur).toList[i]? = some (enc d[i]!) := by
      simp [putCells, hi, h]
    rw [e1, getElem!_pos d i hi]
    simp [ints, hi, enc]
  · have e1 : (putCells enc 0 d cur).toList[i]? = none := by
      simp [putCells]; omega
    rw [e1, List.getElem?_eq_none (by simp [ints]; omega)]
theorem own_sorted {m : Nat} (w : World) (base blk q : Nat) (d : Array (Fin (m + 1))) (os : Array Obj) (xs : List Int) (hd : d.size = m + 1) (h : Own w base blk (m + 1) (m + 1) xs) :
    Own (sortWorld enc w blk 0 q d os) base blk (m + 1) (m + 1) (ints (d.toList.map Fin.val)) := by
  refine ⟨by simp [ints, hd], ?_⟩
  rcases h.2 with ⟨z, _⟩ | ⟨g', c, cur, z, hb, hc, h1, h2, h3, h4⟩
  · simp at z
  · obtain ⟨rfl, rfl⟩ : blk = g' ∧ m + 1 = c := by simpa using z
    refine Or.inr ⟨blk, m + 1, _, rfl, hb, sortWorld_same w blk q d os cur 3 (0, 0) hc, Nat.le_refl _, h2, by simpa [putCells] using h3, ?_⟩
    rw [putCells_all d cur (by rw [hd]; simpa using h3), List.take_of_length_le (by simp [ints, hd])]
theorem sortWorld_cell {n : Nat} [Inhabited (Fin n)] (w : World) (blk q : Nat) (d : Array (Fin n)) (os : Array Obj) (p : Addr) (hb : p.block < w.heap.size) (hne : p.block ≠ blk) : (sortWorld enc w blk 0 q d os).cell? p = w.cell? p :=
  World.cell?_of_block (sortWorld_other w blk q d os p.block hb hne)
theorem cmpLays (t : Int) (xs : List Int) (m g bx blk size : Nat) (w : World) (h40 : m + 1 ≤ 40) (hg : g < w.heap.size) (hbx : bx < w.heap.size) (n1 : g ≠ blk) (n2 : bx ≠ blk)
    (hx : w.cell? ⟨bx, 0, none⟩ = some (.slice (some ⟨g, 0, none⟩) (m + 1) (m + 1))) (hr : At w g (rests t xs (m + 1))) :
    CmpLays1 Tryz.prog 199 #[.pointer (some ⟨bx, 0, none⟩)] (enc (n := m + 1)) (cf t xs) blk 0 size w := by
  intro q os d hd x y
  have k1 := hr x.val (by rw [rests_len]; exact x.isLt)
  have k2 := hr y.val (by rw [rests_len]; exact y.isLt)
  rw [rests_getD t xs (m + 1) _ x.isLt] at k1
  rw [rests_getD t xs (m + 1) _ y.isLt] at k2
  exact iCloses (sortWorld enc w blk 0 q d os) x.val y.val (m + 1) g bx (R t xs x.val) (R t xs y.val) x.isLt y.isLt (by omega)
    ((sortWorld_cell w blk q d os _ hbx n2).trans hx) ((sortWorld_cell w blk q d os _ hg n1).trans k1) ((sortWorld_cell w blk q d os _ hg n1).trans k2)
theorem holds_all (m blk : Nat) (w : World) (base : Nat) (h : Own w base blk (m + 1) (m + 1) (ints (List.range (m + 1)))) : Holds (enc (n := m + 1)) w blk 0 (allOf (m + 1)) := by
  intro j hj
  have hj' : j < m + 1 := by simpa [allOf] using hj
  have e := h.at j (by rw [ints_len]; simpa using hj')
  refine ⟨?_, by simpa using h.free (0 + j)⟩
  rw [Nat.zero_add, e, ints_getD, getElem!_pos (allOf (m + 1)) j hj]
  simp [allOf, enc, List.getD, hj']
theorem sorts (t : Int) (xs : List Int) (m g bx blk base : Nat) (w : World) (h40 : m + 1 ≤ 40) (hg : g < w.heap.size) (hbx : bx < w.heap.size) (n1 : g ≠ blk) (n2 : bx ≠ blk)
    (hx : w.cell? ⟨bx, 0, none⟩ = some (.slice (some ⟨g, 0, none⟩) (m + 1) (m + 1))) (hr : At w g (rests t xs (m + 1))) (ho : Own w base blk (m + 1) (m + 1) (ints (List.range (m + 1)))) :
    Calls Tryz.prog 215 #[.slice (some ⟨blk, 0, none⟩) (m + 1) (m + 1), .func (.func 199) #[] #[.pointer (some ⟨bx, 0, none⟩)]] w fun e w' =>
      e = .returned (.tuple #[]) ∧ ∃ L, IsOrder t xs (m + 1) L ∧ Own w' base blk (m + 1) (m + 1) (ints L) ∧ Below blk w w' := by
  have hn : (allOf (m + 1)).size = m + 1 := by simp [allOf]
  have eg : ∀ args w, (callFunc 199 args).run Tryz.prog w = .ok (.enter 199 args) w := enters_of Tryz.func199 (by kernel_rfl) rfl
  have hc := cmpLays t xs m g bx blk (allOf (m + 1)).size w h40 hg hbx n1 n2 hx hr
  have hcon := Any.slices_SortFunc Tryz.sortI (enc (n := m + 1)) (fun _ => rfl) (cf t xs) (swo t xs (m + 1)) 199 #[.pointer (some ⟨bx, 0, none⟩)] blk 0 (m + 1) (allOf (m + 1)) w eg hc (holds_all m blk w base ho) ho.lt.2 (by rw [hn]; omega)
  change Calls Tryz.prog 215 _ _ _ at hcon
  have e : (Value.slice (some ⟨blk, 0, none⟩) (m + 1) (m + 1)) = .slice (some ⟨blk, 0, none⟩) (allOf (m + 1)).size (m + 1) := congrArg (fun k => Value.slice (some ⟨blk, 0, none⟩) k (m + 1)) hn.symm
  rw [e]
  refine hcon.mono ?_
  rintro e w' ⟨rfl, d', q, os, hp, hs, rfl⟩
  have hd : d'.size = m + 1 := hp.1.trans hn
  exact ⟨rfl, _, isOrder_of_sorted t xs m d' hp hs, own_sorted w base blk q d' os _ hd ho, sortWorld_below w blk q d' os ho.lt.2⟩
set_option maxRecDepth 100000 in
set_option maxHeartbeats 800000 in
theorem iSorted (t : Int) (xs : List Int) (m g bx : Nat) (w : World) (h40 : m + 1 ≤ 40) (hg : g < w.heap.size) (hbx : bx < w.heap.size)
    (hx : w.cell? ⟨bx, 0, none⟩ = some (.slice (some ⟨g, 0, none⟩) (m + 1) (m + 1))) (hr : At w g (rests t xs (m + 1))) :
    Calls Tryz.prog 198 #[.int .i64 ((m + 1 : Nat) : Int), .func (.func 199) #[] #[.pointer (some ⟨bx, 0, none⟩)]] w fun e w' =>
      ∃ L, IsOrder t xs (m + 1) L ∧ e = .returned (.slice (some ⟨w.heap.size, 0, none⟩) (m + 1) (m + 1)) ∧ Own w' w.heap.size w.heap.size (m + 1) (m + 1) (ints L) ∧ Below w.heap.size w w' := by
  obtain ⟨n, hn⟩ : ∃ n, n = m + 1 := ⟨_, rfl⟩
  have n40 : n ≤ 40 := by omega
  have HX := hide hx
  have HR := hide hr
  have HG := hide hg
  have HBX := hide hbx
  have HN := hide hn
  rw [← hn]
  clear hx hr hg hbx hn h40
  obtain ⟨i0, hi, hz0, hz1, hz2⟩ := info_parts info3
  go_enter Tryz.func198, Tryz.ntmps198
  go_wp2_with (at_make; refine wpList_make_full _ rfl _ _ 43 rfl w.heap.size 3 i0 (.int .i64 0) 1 Tryz.underlying43 hi hz0 hz1 .i64 .i64 _ _ n rfl rfl rfl rfl (by rw [hz2]; omega) (by unfold maxLen; omega) (Nat.le_refl _) ?_; intro w1 hown hgrow)
  rw [made_zeros, ← part_zero (ints (List.range n))] at hown
  have hb := grownBy_below hgrow
  clear hgrow
  have hlr : (ints (List.range n)).length = n := by simp [ints]
  go_loopw [11] (fun i wr => ∃ (k : Nat), k ≤ n ∧ i = .int .i64 k ∧ Own wr w.heap.size w.heap.size n n (Ints.part (ints (List.range n)) n k) ∧ Below w.heap.size w wr) (fun i _ => n - (intOf i).toNat)
  case atStart => exact ⟨0, by omega, rfl, hown, hb⟩
  case round =>
    clear hown hb
    obtain ⟨k, hk, rfl, hown, hb⟩ := hrel
    by_cases lt : k < n
    · have hs := hide (Own.set hown k k)
      have hc2 := Own.at hown k (by rw [Own.len hown]; exact lt)
      have hf := Own.free hown k
      have HB := hide hb
      clear hown hb
      generalize (Ints.part (ints (List.range n)) n k).getD k 0 = z at hc2
      go_wp2
      go_roundw
      case rel =>
        obtain ⟨o, q⟩ := unhide hs
        have e : (ints (List.range n)).getD k 0 = (k : Int) := by rw [ints_getD]; simp [List.getD, lt]
        have o2 := part_step (ints (List.range n)) n k hlr lt
        rw [e] at o2
        rw [o2] at o
        exact ⟨k + 1, by omega, by go_num, o, (unhide HB).setCell (Nat.le_refl _) _⟩
      case measure => simp [intOf]; omega
    · obtain rfl : k = n := by omega
      rw [part_all _ k hlr] at hown
      have c := sorts t xs m g bx w.heap.size w.heap.size wr (by have := unhide HN; omega) (Nat.lt_of_lt_of_le (unhide HG) hb.size) (Nat.lt_of_lt_of_le (unhide HBX) hb.size) (by have := unhide HG; omega) (by have := unhide HBX; omega)
        ((hb.cell (p := ⟨bx, 0, none⟩) (unhide HBX)).trans (unhide HX)) ((unhide HR).below hb (unhide HG)) (by rw [← unhide HN]; exact hown)
      rw [← unhide HN] at c
      have HB := hide hb
      clear hown hb
      go_wp2_with fail
      refine c.mono ?_
      rintro e w2 ⟨rfl, L, ord, o, b⟩
      go_wp2
      go_ret
      exact ⟨L, ord, rfl, o, (unhide HB).trans b⟩
set_option maxRecDepth 100000 in
theorem iRestOrder (t : Int) (xs : List Int) (m g : Nat) (w : World) (h40 : m + 1 ≤ 40) (hg : g < w.heap.size) (hr : At w g (rests t xs (m + 1))) :
    Calls Tryz.prog 184 #[.slice (some ⟨g, 0, none⟩) (m + 1) (m + 1)] w fun e w' =>
      ∃ L g', IsOrder t xs (m + 1) L ∧ e = .returned (.slice (some ⟨g', 0, none⟩) (m + 1) (m + 1)) ∧ Own w' w.heap.size g' (m + 1) (m + 1) (ints L) ∧ Below w.heap.size w w' := by
  have hb := Below.alloc (Below.refl w.heap.size w) (Nat.le_refl _) (.cells #[Value.slice (some ⟨g, 0, none⟩) (m + 1) (m + 1)] 43)
  have c := iSorted t xs m g w.heap.size (w.alloc (.cells #[Value.slice (some ⟨g, 0, none⟩) (m + 1) (m + 1)] 43)) h40 (by simp; omega) (by simp) (by simp) (hr.below hb hg)
  have HB := hide hb
  clear hb hr
  go_enter Tryz.func184, Tryz.ntmps184
  go_wp2_with fail
  refine c.mono ?_
  rintro e w2 ⟨L, ord, rfl, o, b⟩
  rw [World.size_alloc] at o b
  go_wp2
  go_ret
  exact ⟨L, w.heap.size + 1, ord, rfl, Own.mono o (by omega), (unhide HB).trans (b.mono (by omega))⟩
end Go.Proofs.YtnmeiiaipacplaaGreat.ISort
namespace Go.Proofs.YtnmeiiaipacplaaGreat.IOrder
open Go.ChangeShapes Go.WideShapes Go.ChangeAt Go.RowKit Ints Small Weigh Quota Order MulC
def wholes (t : Int) (xs : List Int) (k : Nat) : List Int := (List.range k).map (Q t xs)
theorem wholes_len (t : Int) (xs : List Int) (k : Nat) : (wholes t xs k).length = k := by simp [wholes]
theorem wholes_getD (t : Int) (xs : List Int) (k j : Nat) (h : j < k) : (wholes t xs k).getD j 0 = Q t xs j := by simp [wholes, List.getD, h]
theorem made_zeros1 (n : Nat) : (madeCells #[Value.int .i64 0] n).toList = (List.replicate n (0 : Int)).map (Value.int .i64) := by
  rw [toList_madeCells_one, List.map_replicate]
set_option maxRecDepth 100000 in
set_option maxHeartbeats 2000000 in
theorem iQuotas (w : World) (t : Int) (g n cap : Nat) (xs : List Int) (hl : xs.length = n) (hg : g < w.heap.size) (h : At w g xs) (good : Weigh.Good xs) (ht : Tot t) :
    Calls Tryz.prog 183 #[.int .i64 t, .slice (some ⟨g, 0, none⟩) n cap] w fun e w' => ∃ g1 g2, g1 ≠ g2 ∧ e = .returned (.tuple #[.slice (some ⟨g1, 0, none⟩) n n, .slice (some ⟨g2, 0, none⟩) n n, .bool true]) ∧
      Own w' w.heap.size g1 n n (wholes t xs n) ∧ Own w' w.heap.size g2 n n (rests t xs n) ∧ Below w.heap.size w w' := by
  have n40 : n ≤ 40 := by have := good.1.2; omega
  have c1 := iSum w g n cap xs (S xs xs.length) true hl (by omega) h (hide (Or.inl ⟨good, rfl, rfl⟩))
  have s1 := good.2.2
  have MD := hide (fun (k : Nat) (hk : k < n) (W : World) => iMD t (xs.getD k 0) (S xs xs.length) (Q t xs k) (R t xs k) true W ht.1 ht.2 (good.2.1 k (by omega)).1 (good.2.1 k (by omega)).2 s1.1 s1.2 (hide (tells t xs k ht good (by omega))))
  have H := hide h
  have HG := hide hg
  obtain ⟨t0, t1⟩ := ht
  have ta : -1000000000000000 ≤ t := by omega
  have wl := wholes_len t xs n
  have rl := rests_len t xs n
  obtain ⟨i0, hi, hz0, hz1, hz2⟩ := info_parts info3
  generalize S xs xs.length = s at *
  clear h hg good
  have WL := hide wl
  have RL := hide rl
  clear wl rl
  go_enter Tryz.func183, Tryz.ntmps183
  go_wp2_with fail
  refine c1.mono ?_
  rintro e w' ⟨rfl, rfl⟩
  go_wp2_with fail
  refine (iAmt_yes t _ ⟨ta, t1⟩).mono ?_
  rintro e w' ⟨rfl, hw'⟩
  subst hw'
  go_wp2_with (at_make; refine wpList_make_full _ rfl (.tmp 30) (.tmp 30) 43 rfl w'.heap.size 3 i0 (.int .i64 0) 1 Tryz.underlying43 hi hz0 hz1 .i64 .i64 _ _ n rfl rfl rfl rfl (by rw [hz2]; omega) (by unfold maxLen; omega) (Nat.le_refl _) ?_)
  intro w1 o1 gr1
  have o1 : Own w1 w'.heap.size w'.heap.size n n (Ints.part (wholes t xs n) n 0) := by
    have o := o1
    rw [made_zeros1, ← part_zero (wholes t xs n)] at o
    exact o
  have b1 := grownBy_below gr1
  clear gr1
  go_wp2_with (at_make; refine wpList_make_full _ rfl (.tmp 33) (.tmp 33) 43 rfl w'.heap.size 3 i0 (.int .i64 0) 1 Tryz.underlying43 hi hz0 hz1 .i64 .i64 _ _ n rfl rfl rfl rfl (by rw [hz2]; omega) (by unfold maxLen; omega) b1.size ?_)
  intro w2 o2 gr2
  have o2 : Own w2 w'.heap.size w1.heap.size n n (Ints.part (rests t xs n) n 0) := by
    have o := o2
    rw [made_zeros1, ← part_zero (rests t xs n)] at o
    exact o
  have b2 := grownBy_below gr2
  have o1 := o1.below b2 o1.lt.2
  have l1 : w'.heap.size < w1.heap.size := by have := o1.lt; have := (Own.lt ‹Own w1 w'.heap.size w'.heap.size n n _›).2; omega
  have b2 := next b1 b2
  clear gr2 b1
  go_wp2_with fail
  go_loopw [37] (fun i wr => ∃ (k : Nat), k ≤ n ∧ i = .int .i64 k ∧ Own wr w'.heap.size w'.heap.size n n (Ints.part (wholes t xs n) n k) ∧ Own wr w'.heap.size w1.heap.size n n (Ints.part (rests t xs n) n k) ∧ Below w'.heap.size w' wr) (fun i _ => n - (intOf i).toNat)
  case atStart => exact ⟨0, by omega, rfl, o1, o2, b2⟩
  case round =>
    clear o1 o2 b2
    obtain ⟨k, hk, rfl, o1, o2, b⟩ := hrel
    by_cases lt : k < n
    · have e1 := (unhide H).below b (unhide HG) k (by omega)
      have c2 := unhide MD k lt wr
      generalize xs.getD k 0 = x at *
      go_wp2_with fail
      refine c2.mono ?_
      rintro e w3 ⟨rfl, gr⟩
      have bb := gr.below
      have o1 := o1.below bb o1.lt.2
      have o2 := o2.below bb o2.lt.2
      have b := next b bb
      have a1 := o1.at k (by rw [o1.len]; exact lt)
      have f1 := o1.free k
      obtain ⟨p1, q1⟩ := o1.set k (Q t xs k)
      have o2 := o2.kept q1 (by simp; omega)
      have a2 := o2.at k (by rw [o2.len]; exact lt)
      have f2 := o2.free k
      obtain ⟨p2, q2⟩ := o2.set k (R t xs k)
      have p1 := p1.kept q2 (by simp; omega)
      rw [← wholes_getD t xs n k lt, part_step _ n k (unhide WL) lt, wholes_getD t xs n k lt] at p1
      rw [← rests_getD t xs n k lt, part_step _ n k (unhide RL) lt, rests_getD t xs n k lt] at p2
      have P1 := hide p1
      have P2 := hide p2
      have b := hide ((b.setCell (p := ⟨w'.heap.size, k, none⟩) (Nat.le_refl _) (.int .i64 (Q t xs k))).setCell (p := ⟨w1.heap.size, k, none⟩) (Nat.le_of_lt l1) (.int .i64 (R t xs k)))
      clear p1 p2 q1 q2 o2 bb gr
      generalize (Ints.part (wholes t xs n) n k).getD k 0 = z1 at a1
      generalize (Ints.part (rests t xs n) n k).getD k 0 = z2 at a2
      go_wp2
      go_roundw
      case rel => exact ⟨k + 1, by omega, by go_num, unhide P1, unhide P2, unhide b⟩
      case measure => simp [intOf]; omega
    · obtain rfl : k = n := by omega
      rw [part_all _ k (unhide WL)] at o1
      rw [part_all _ k (unhide RL)] at o2
      have O1 := hide o1
      have O2 := hide o2
      have B := hide b
      have L1 := hide l1
      clear o1 o2 b l1
      go_wp2
      go_ret3
      exact ⟨_, _, by have := unhide L1; omega, rfl, unhide O1, unhide O2, unhide B⟩
set_option maxRecDepth 100000 in
theorem iQuotas_bad (w : World) (t : Int) (g n cap : Nat) (xs : List Int) (hl : xs.length = n) (h20 : n ≤ 1048576) (h : At w g xs) (bad : ¬ (Weigh.Good xs ∧ Tot t)) :
    Calls Tryz.prog 183 #[.int .i64 t, .slice (some ⟨g, 0, none⟩) n cap] w fun e w' => e = .returned (.tuple #[.slice none 0 0, .slice none 0 0, .bool false]) ∧ w' = w := by
  by_cases good : Weigh.Good xs
  · have c1 := iSum w g n cap xs (S xs xs.length) true hl h20 h (hide (Or.inl ⟨good, rfl, rfl⟩))
    have ht : ¬ Tot t := fun k => bad ⟨good, k⟩
    generalize S xs xs.length = s at *
    rcases amt_or t with ha | ha
    · have tn : t < 0 := by unfold Tot at ht; have := ha.2; omega
      have HA := hide ha
      clear ha ht bad good h
      go_enter Tryz.func183, Tryz.ntmps183
      go_wp2_with fail
      refine c1.mono ?_
      rintro e w' ⟨rfl, rfl⟩
      go_wp2_with fail
      refine (iAmt_yes t _ (unhide HA)).mono ?_
      rintro e w' ⟨rfl, rfl⟩
      go_wp2
      go_ret3
      exact ⟨rfl, rfl⟩
    · have HA := hide ha
      clear ha ht bad good h
      go_enter Tryz.func183, Tryz.ntmps183
      go_wp2_with fail
      refine c1.mono ?_
      rintro e w' ⟨rfl, rfl⟩
      go_wp2_with fail
      refine (iAmt_no t _ (unhide HA)).mono ?_
      rintro e w' ⟨rfl, rfl⟩
      go_wp2
      go_ret3
      exact ⟨rfl, rfl⟩
  · have c1 := iSum w g n cap xs 0 false hl h20 h (hide (Or.inr ⟨good, rfl, rfl⟩))
    clear bad good h
    go_enter Tryz.func183, Tryz.ntmps183
    go_wp2_with fail
    refine c1.mono ?_
    rintro e w' ⟨rfl, rfl⟩
    go_wp2
    go_ret3
    exact ⟨rfl, rfl⟩
end Go.Proofs.YtnmeiiaipacplaaGreat.IOrder
