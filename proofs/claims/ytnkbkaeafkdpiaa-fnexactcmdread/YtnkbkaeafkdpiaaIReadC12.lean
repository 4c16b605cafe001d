/- Commands from bytes: the program's CmdRead. -/
import Derived.Test.YtnkbkaeafkdpiaaIRead12
import Derived.Test.YtnkbkaeafkdpiaaSReadC12
import Derived.Test.YtnkbkaeafkdpiaaRT12
import Derived.Test.YtnkbkaeafkdpiaaIPackC12
import Derived.Deep.RegionHeld3
namespace Go.Proofs.Ytnkbkaeafkdpiaa.IReadC12
open Go.ChangeShapes Go.WideShapes Go.ChangeAt Go.RowKit SBytes SPut11 SPuts11 SPack12 IRd11 IInto12 IMsg12 IPack12 SRead12 SReadC12
open ICmd10 (Ptr iNone no_args)
open ICall10 (Made made_of tyC)
open SCmd (CmOk nArgs nArgs_le)
open Lots (Says says_of)
set_option linter.unusedVariables false
set_option linter.unusedSimpArgs false

theorem getN_one (xs : List Int) (x : Int) : gets xs 1 x [] = if (getN xs x).2.2 = true then ([(getN xs x).1], (getN xs x).2.1, true) else ([], 0, false) := rfl

theorem getN_place (xs : List Int) (x : Int) (h : (getN xs x).2.2 = true) : 0 ≤ (getN xs x).2.1 ∧ (getN xs x).2.1 ≤ xs.length := by
  have : ∀ f k, (getF xs x.toNat f k).2.2 = true → 0 ≤ (getF xs x.toNat f k).2.1 ∧ (getF xs x.toNat f k).2.1 ≤ xs.length := by
    intro f
    induction f with
    | zero => intro k; simp [getF]
    | succ f ih =>
      intro k h
      simp only [getF] at h ⊢
      by_cases a : x.toNat + k < xs.length
      · rw [if_pos a] at h ⊢
        by_cases b : xs.getD (x.toNat + k) 0 < 128
        · rw [if_pos b] at h ⊢
          by_cases c : xs.getD (x.toNat + k) 0 = 0 ∧ 0 < k
          · rw [if_pos c] at h; simp at h
          · rw [if_neg c]; simp only; omega
        · rw [if_neg b] at h ⊢
          exact ih (k + 1) h
      · rw [if_neg a] at h; simp at h
  unfold getN at h ⊢
  by_cases a : x < 0 ∨ (xs.length : Int) ≤ x
  · rw [if_pos a] at h; simp at h
  · rw [if_neg a] at h ⊢
    exact this 9 0 h

/-- The command that is read, and the place behind it. -/
def oneC (xs : List Int) : Option (Int × List Int × Int) :=
  if (getN xs 0).2.2 = true ∧ 0 ≤ nArgs (getN xs 0).1 ∧ (gets xs (nArgs (getN xs 0).1).toNat (getN xs 0).2.1 []).2.2 = true then some ((getN xs 0).1, (gets xs (nArgs (getN xs 0).1).toNat (getN xs 0).2.1 []).1, (gets xs (nArgs (getN xs 0).1).toNat (getN xs 0).2.1 []).2.1) else none

theorem readC_one (xs : List Int) : readC xs = match oneC xs with | none => (0, [], false) | some (k, q, p) => if p = xs.length ∧ okB k q = true then (k, q, true) else (0, [], false) := by
  unfold readC oneC
  by_cases h0 : (getN xs 0).2.2 = true
  · by_cases h1 : 0 ≤ nArgs (getN xs 0).1
    · have e : getsN xs (getN xs 0).2.1 (nArgs (getN xs 0).1) = gets xs (nArgs (getN xs 0).1).toNat (getN xs 0).2.1 [] := by
        unfold getsN
        have := getN_place xs 0 h0
        have := nArgs_le (getN xs 0).1
        rw [if_pos (by omega)]
      rw [e]
      by_cases h2 : (gets xs (nArgs (getN xs 0).1).toNat (getN xs 0).2.1 []).2.2 = true
      · simp [h0, h1, h2]
      · simp [h2]
    · simp [h1]
  · simp [h0]

/-- What a reader of commands tells. -/
def ToldC (w : World) (base p : Nat) (r : Option (Int × List Int × Int)) (e : Ending) (w' : World) : Prop :=
  Below base w w' ∧ ((r = none ∧ e = .returned .nilIface) ∨ ∃ k q s g c, r = some (k, q, s) ∧ e = .returned (.iface 37 (.agg #[.int .i64 k, .slice (some ⟨g, 0, none⟩) q.length c])) ∧ Pl w' base p s ∧ Ints.Own w' base g q.length c q ∧ q.length ≤ 7)

theorem ptr1 (u : World) (d : Nat) : Ptr (u.alloc (.cells #[.pointer (some ⟨d, 0, none⟩)] 78)) u.heap.size d 1 := by
  intro i hi
  have : i = 0 := by omega
  subst this
  simp

theorem one_at (w : World) (a : Int) : AtI (w.alloc (.cells #[.int .i64 a] 3)) w.heap.size [a] := by
  intro i hi
  have : i = 0 := by simpa using hi
  subst this
  simp

theorem cell_off {u : World} {g i d o : Nat} {v z : Value} (h : u.cell? ⟨g, i, none⟩ = some v) (hn : g ≠ d) : (u.setCell ⟨d, o, none⟩ z).cell? ⟨g, i, none⟩ = some v :=
  (World.cell?_of_block (w := u) (Below.heap_setCell _ _ _ _ (fun e => hn e))).trans h

theorem take_more {q : List Int} {j : Nat} {x : Int} (hx : q.getD j 0 = x) (h : j < q.length) : q.take (j + 1) = q.take j ++ [x] := by
  rw [List.take_add_one, ← hx]
  simp [List.getD, h]

theorem Gr2.then_ {w w1 w2 : World} {a b : Nat} (h : Gr2 w w1 a b) (k : w2.os = w1.os ∧ w2.tape = w1.tape ∧ w2.output = w1.output ∧ w1.heap.size ≤ w2.heap.size ∧ ∀ i, i < w.heap.size → i ≠ a → i ≠ b → w2.heap[i]? = w1.heap[i]?) : Gr2 w w2 a b :=
  ⟨k.1.trans h.os, k.2.1.trans h.tape, k.2.2.1.trans h.output, Nat.le_trans h.size k.2.2.2.1, fun i hi h1 h2 => (k.2.2.2.2 i hi h1 h2).trans (h.block i hi h1 h2)⟩
theorem Gr2.one {w w1 : World} {a : Nat} (h : Gr2 w w1 a a) : w.grownBy w1 (some a) :=
  ⟨h.os, h.tape, h.output, h.size, fun i hi hr => h.block i hi (fun e => hr (by rw [e])) (fun e => hr (by rw [e]))⟩

abbrev oG0 : Oper := { dst := some 35, op := Go.Op.fieldAddr 37 (Go.Operand.tmp 3) 1, type := 0, pos := "l12_code.go:63", after := #[], guard := none }
abbrev oG1 : Oper := { dst := some 36, op := Go.Op.load 32 (Go.Operand.tmp 35), type := 32, pos := "l12_code.go:63", after := #[{ on := 0, ground := Go.Ground.data }], guard := none }
abbrev oG2 : Oper := { dst := some 37, op := Go.Op.move (Go.Operand.tmp 8), type := 78, pos := "l12_code.go:63", after := #[], guard := none }
abbrev oG3 : Oper := { dst := some 38, op := Go.Op.nilCheck (Go.Operand.tmp 37), type := 0, pos := "l12_code.go:63", after := #[{ on := 2, ground := Go.Ground.data }], guard := none }
abbrev oG4 : Oper := { dst := some 39, op := Go.Op.load 3 (Go.Operand.tmp 38), type := 3, pos := "l12_code.go:63", after := #[{ on := 3, ground := Go.Ground.data }], guard := none }
abbrev oG5 : Oper := { dst := some 40, op := Go.Op.buildSlice 32 1 #[(0, Go.Operand.tmp 39)], type := 32, pos := "l12_code.go:63", after := #[{ on := 4, ground := Go.Ground.data }], guard := none }
abbrev oG6 : Oper := { dst := some 41, op := Go.Op.call { callee := Go.Callee.builtin Go.Builtin.append, args := #[Go.Operand.tmp 36, Go.Operand.tmp 40], argTypes := #[32, 32] }, type := 32, pos := "l12_code.go:63", after := #[{ on := 1, ground := Go.Ground.data }, { on := 5, ground := Go.Ground.data }], guard := none }
abbrev oG7 : Oper := { dst := some 42, op := Go.Op.fieldAddr 37 (Go.Operand.tmp 3) 1, type := 0, pos := "l12_code.go:63", after := #[{ on := 0, ground := Go.Ground.phase }, { on := 1, ground := Go.Ground.phase }, { on := 2, ground := Go.Ground.phase }, { on := 3, ground := Go.Ground.phase }, { on := 4, ground := Go.Ground.phase }, { on := 5, ground := Go.Ground.phase }, { on := 6, ground := Go.Ground.phase }], guard := none }
abbrev oG8 : Oper := { dst := none, op := Go.Op.store 32 (Go.Operand.tmp 42) (Go.Operand.tmp 41), type := 0, pos := "l12_code.go:63", after := #[{ on := 7, ground := Go.Ground.data }, { on := 6, ground := Go.Ground.data }, { on := 6, ground := Go.Ground.chain }, { on := 0, ground := Go.Ground.phase }, { on := 1, ground := Go.Ground.phase }, { on := 2, ground := Go.Ground.phase }, { on := 3, ground := Go.Ground.phase }, { on := 4, ground := Go.Ground.phase }, { on := 5, ground := Go.Ground.phase }, { on := 6, ground := Go.Ground.phase }], guard := none }

set_option maxRecDepth 100000 in
set_option maxHeartbeats 8000000 in
theorem iReadC (w : World) (gl cl p base : Nat) (xs : List Int) (h20 : xs.length ≤ 1048576) (hc : xs.length ≤ cl) (hg : gl < base) (hr : AtB w gl xs) (hp : Pl w base p 0) :
    Calls Try.prog 49 #[.agg #[.slice (some ⟨gl, 0, none⟩) xs.length cl, .pointer (some ⟨p, 0, none⟩)]] w (ToldC w base p (oneC xs)) := by
  have lp := hp.lt
  let A1 := w.alloc (.cells #[.slice (some ⟨gl, 0, none⟩) xs.length cl, .pointer (some ⟨p, 0, none⟩)] 80)
  let A2 := A1.alloc (.cells #[.int .i64 0, .slice none 0 0] 37)
  let A3 := A2.alloc (.cells #[.pointer (some ⟨w.heap.size + 1, 0, none⟩)] 78)
  have z1 : A1.heap.size = w.heap.size + 1 := by simp [A1]
  have z2 : A2.heap.size = w.heap.size + 2 := by simp [A2, z1]
  have z3 : A3.heap.size = w.heap.size + 3 := by simp [A3, z2]
  have b1 : Below w.heap.size w A1 := one_more _ _
  have b2 : Below w.heap.size w A2 := b1.alloc (by omega) _
  have b3 : Below w.heap.size w A3 := b2.alloc (by omega) _
  have r1 := rd_box w (.slice (some ⟨gl, 0, none⟩) xs.length cl) (.pointer (some ⟨p, 0, none⟩))
  have bA : Below A1.heap.size A1 A3 := (one_more A1 _).trans ((one_more A2 _).mono (by omega))
  have r3 : A3.cell? ⟨w.heap.size, 0, none⟩ = some (.slice (some ⟨gl, 0, none⟩) xs.length cl) ∧ A3.cell? ⟨w.heap.size, 1, none⟩ = some (.pointer (some ⟨p, 0, none⟩)) :=
    ⟨(bA.cell (p := ⟨w.heap.size, 0, none⟩) (by show w.heap.size < _; omega)).trans r1.1, (bA.cell (p := ⟨w.heap.size, 1, none⟩) (by show w.heap.size < _; omega)).trans r1.2⟩
  have t2 : Tg A2 base 37 2 (w.heap.size + 1) [.int .i64 0, .slice none 0 0] := by
    have := World.ownsRow_lit (base := base) (size := 2) (e := 37) A1 #[.int .i64 0, .slice none 0 0] 1 (by omega) (by decide) rfl
    rw [z1] at this
    exact this
  have t3 : Tg A3 base 37 2 (w.heap.size + 1) [.int .i64 0, .slice none 0 0] := t2.step (one_more _ _)
  have P3 := hide (hp.below b3 lp.2)
  have R3 := hide (AtB.below hr b3 (by omega))
  have Q3 := hide (show Ptr A3 (w.heap.size + 2) (w.heap.size + 1) 1 from by have := ptr1 A2 (w.heap.size + 1); rw [z2] at this; exact this)
  have IN := hide (iInto A3 gl cl p base 37 2 (w.heap.size + 1) (w.heap.size + 2) 1 1 xs 0 [.int .i64 0, .slice none 0 0] (by omega) h20 hc hg (unhide R3) (unhide P3) t3 (fun i hi => by
    have : i = 0 := by omega
    subst this
    exact ⟨0, rfl⟩) (unhide Q3) (by omega) (by omega) (by omega) (by omega) (by omega))
  have B3 := hide (b3.mono (show base ≤ w.heap.size by omega))
  have Z3 := hide z3
  have RB := hide r3
  have R0 := hide hr
  clear hr hp t2 t3 b1 b2 b3 z1 z2 z3 Q3 R3 P3 r1 r3 bA
  have TW := hide (show oneC xs = if (getN xs 0).2.2 = true ∧ 0 ≤ nArgs (getN xs 0).1 ∧ (gets xs (nArgs (getN xs 0).1).toNat (getN xs 0).2.1 []).2.2 = true then some ((getN xs 0).1, (gets xs (nArgs (getN xs 0).1).toNat (getN xs 0).2.1 []).1, (gets xs (nArgs (getN xs 0).1).toNat (getN xs 0).2.1 []).2.1) else none from rfl)
  have GP := hide (getN_place xs 0)
  rw [getN_one] at IN
  generalize oneC xs = tw at *
  generalize getN xs 0 = y at *
  obtain ⟨k, s, y2⟩ := y
  simp only at TW GP IN
  cases y2 with
  | false =>
    have TN := hide (show tw = none from by rw [unhide TW]; simp)
    clear TW GP
    rw [if_neg (by simp)] at IN
    go_enter Try.func49, Try.ntmps49
    go_wp2_with fail
    refine (unhide IN).mono ?_
    rintro e u ⟨rfl, g1, -⟩
    have B4 := hide ((unhide B3).trans (g1.to (B := base) (by have := unhide Z3; omega) lp.1 (by omega)))
    clear g1
    go_wp2
    go_ret
    exact ⟨unhide B4, .inl ⟨unhide TN, rfl⟩⟩
  | true =>
  obtain ⟨s0, s1⟩ := (unhide GP) rfl
  rw [if_pos rfl] at IN
  go_enter Try.func49, Try.ntmps49
  go_wp2_with fail
  refine (unhide IN).mono ?_
  rintro e u ⟨rfl, g1, h1⟩
  obtain ⟨p1, t1⟩ := h1 (by simp)
  have us := g1.size
  have z3 := unhide Z3
  have B4 := hide ((unhide B3).trans (g1.to (B := base) (by omega) lp.1 (by omega)))
  have T4 := hide (show Tg u base 37 2 (w.heap.size + 1) [.int .i64 k, .slice none 0 0] from t1)
  have P4 := hide (show Pl u base p s from p1)
  have RC := hide (And.intro ((g1.cell 0 (g := w.heap.size) (by omega) (by omega) (by omega)).trans (unhide RB).1) ((g1.cell 1 (g := w.heap.size) (by omega) (by omega) (by omega)).trans (unhide RB).2))
  clear g1 h1 p1 t1 IN RB B3 Z3 GP
  have c0 := (unhide T4).at (i := 0) rfl
  have c1 := (unhide T4).at (i := 1) rfl
  by_cases h0 : k < 1 ∨ 11 < k
  · have TN := hide (show tw = none from by rw [unhide TW, if_neg]; rw [no_args h0]; omega)
    have H0 := hide h0
    clear h0 TW
    go_wp2_with fail
    refine (iNone _ k (unhide H0)).mono ?_
    rintro e u2 ⟨rfl, rfl⟩
    go_wp2
    go_ret
    exact ⟨unhide B4, .inl ⟨unhide TN, rfl⟩⟩
  obtain ⟨sz, f, n, M⟩ := made_of k h0
  have NA := hide M.na
  have HM := hide M
  have hm := M.me
  have hE := M.en
  have n7 : n ≤ 7 := by have := nArgs_le k; rw [M.na] at this; omega
  have n1 : 1 ≤ n := by
    have := M.na
    unfold nArgs at this
    repeat' split at this
    all_goals omega
  have TN := hide (show tw = if (gets xs n s []).2.2 = true then some (k, (gets xs n s []).1, (gets xs n s []).2.1) else none from by
    rw [unhide TW, M.na, Int.toNat_natCast]
    simp)
  clear h0 M TW
  generalize hT : tyC k = ty at *
  clear hT
  go_wp2_with fail
  refine ((unhide HM).nw _).mono ?_
  rintro e u2 ⟨rfl, r2, bb⟩
  have B5 := hide ((unhide B4).trans (bb.mono (by omega)))
  have T5 := hide ((unhide T4).step bb)
  have P5 := hide ((unhide P4).below bb (unhide P4).lt.2)
  have RC5 := hide (And.intro ((bb.cell (p := ⟨w.heap.size, 0, none⟩) (by show w.heap.size < _; omega)).trans (unhide RC).1) ((bb.cell (p := ⟨w.heap.size, 1, none⟩) (by show w.heap.size < _; omega)).trans (unhide RC).2))
  have M5 := hide (show Tg u2 u.heap.size sz n u.heap.size ((List.replicate n (0 : Int)).map (Value.int .i64)) from r2)
  have lm := (unhide M5).lt
  clear bb r2 c0 c1 B4 T4 P4 RC
  go_wp2_with fail
  clear hm hE
  refine ((unhide HM).ar _ u.heap.size).mono ?_
  rintro e u3 ⟨g, rfl, hP, hq, bb⟩
  obtain ⟨hq1, hq2⟩ := hq
  have B6 := hide ((unhide B5).trans (bb.mono (by omega)))
  have T6 := hide ((unhide T5).step bb)
  have P6 := hide ((unhide P5).below bb (unhide P5).lt.2)
  have M6 := hide (((unhide M5).step bb).mono (base' := base) (by omega))
  have HP := hide hP
  have c0 := (bb.cell (p := ⟨w.heap.size, 0, none⟩) (by show w.heap.size < _; omega)).trans (unhide RC5).1
  have c1 := (bb.cell (p := ⟨w.heap.size, 1, none⟩) (by show w.heap.size < _; omega)).trans (unhide RC5).2
  have zb := bb.size
  clear bb hP B5 T5 P5 M5 RC5 HM
  have IN := hide (iInto u3 gl cl p base sz n u.heap.size g n n xs s ((List.replicate n (0 : Int)).map (Value.int .i64)) (by omega) h20 hc hg (AtB.below (unhide R0) (unhide B6) hg) (unhide P6) (unhide M6) (fun i hi => ⟨0, by simp [hi]⟩) (unhide HP) hq2 (by omega) (by omega) (by omega) (by omega))
  have FU := hide (gets_full xs n s [])
  generalize gets xs n s [] = r at *
  obtain ⟨q, s', r2⟩ := r
  simp only at IN TN FU
  go_wp2_with fail
  refine (unhide IN).mono ?_
  rintro e u4 ⟨rfl, g4, h4⟩
  have z4 := g4.size
  have B7 := hide ((unhide B6).trans (g4.to (B := base) (by omega) lp.1 (by omega)))
  have T7 := hide ((unhide T6).blk (g4.block (w.heap.size + 1) (by omega) (by omega) (by omega)))
  have HP4 := hide (show Ptr u4 g u.heap.size n from fun i hi => (g4.cell i hq2 (by omega) (by omega)).trans ((unhide HP) i hi))
  clear g4 c0 c1 IN B6 T6 P6 M6 HP
  cases r2 with
  | false =>
    have TX := hide (show tw = none from by rw [unhide TN]; rfl)
    clear TN FU h4
    go_wp2
    go_ret
    exact ⟨unhide B7, .inl ⟨unhide TX, rfl⟩⟩
  | true =>
  have TX := hide (show tw = some (k, q, s') from by rw [unhide TN]; rfl)
  have ql : q.length = n := by have := (unhide FU) rfl; simpa using this
  obtain ⟨p4, t4⟩ := h4 rfl
  have P7 := hide p4
  have AT := hide (show Ints.At u4 u.heap.size q from fun i hi => t4.at (by
    unfold fill
    rw [List.getElem?_append_left (by simpa using hi)]
    simp [List.getD, hi]))
  have QL := hide ql
  clear p4 t4 h4 TN FU ql
  go_wp2
  go_loopw [31] (fun i wr => ∃ (j : Nat) (a : Option Addr) (c : Nat), i = .int .i64 j ∧ j ≤ n ∧ Hid (Tg wr base 37 2 (w.heap.size + 1) [.int .i64 k, .slice a j c]) ∧ Hid (VOI.Ob wr u4.heap.size a j c (q.take j)) ∧ Hid (Gr2 u4 wr (w.heap.size + 1) (w.heap.size + 1)) ∧ u4.heap.size ≤ wr.heap.size) (fun i _ => n - (intOf i).toNat)
  case atStart => exact ⟨0, none, 0, rfl, by omega, T7, VOI.Ob.nil _ _, Gr2.refl _ _ _, Nat.le_refl _⟩
  case round =>
    clear T7
    obtain ⟨j, a, c, rfl, hj, TT, HO, HG, hz⟩ := hrel
    by_cases h : j < n
    case neg =>
      have e : j = n := by omega
      subst e
      have c0 := (unhide TT).at (i := 0) rfl
      have c1 := (unhide TT).at (i := 1) rfl
      have gr := Gr2.one (unhide HG)
      have B8 := hide ((unhide B7).trans ((unhide HG).to (B := base) (by omega) (by omega) (by omega)))
      have P8 := hide (Ints.Own.kept (unhide P7) gr (by simp; omega))
      have O8 := hide (show VOI.Ob wr u4.heap.size a j c q from by have := unhide HO; rw [← unhide QL, List.take_length] at this; rw [← unhide QL]; exact this)
      clear gr HG HO
      go_wp2
      go_ret
      rcases (unhide O8).either with ⟨_, e, _⟩ | ⟨ga, rfl, oa⟩
      · omega
      · have e := unhide QL
        subst e
        exact ⟨unhide B8, .inr ⟨k, q, s', ga, c, unhide TX, rfl, unhide P8, oa.mono (by omega), n7⟩⟩
    have kn : (j : Int) < n := by omega
    have pk : wr.cell? ⟨g, j, none⟩ = some (.pointer (some ⟨u.heap.size, j, none⟩)) := ((unhide HG).cell j (by omega) (by omega) (by omega)).trans ((unhide HP4) j h)
    obtain ⟨x, HX⟩ : ∃ x, Hid (q.getD j 0 = x) := ⟨_, rfl⟩
    have HJ := hide (show j < q.length by rw [unhide QL]; exact h)
    have x0 : wr.cell? ⟨u.heap.size, j, none⟩ = some (.int .i64 x) := by
      have := ((unhide HG).cell (g := u.heap.size) j (by omega) (by omega) (by omega)).trans ((unhide AT) j (unhide HJ))
      rw [unhide HX] at this
      exact this
    have d4 := (unhide TT).at (i := 1) rfl
    have bn : Below wr.heap.size wr (wr.alloc (.cells #[.int .i64 x] 3)) := one_more _ _
    have TA := hide (show Tg (wr.alloc (.cells #[.int .i64 x] 3)).drew base 37 2 (w.heap.size + 1) [.int .i64 k, .slice a j c] from (unhide TT).step bn.drew)
    have HA := hide (show VOI.Ob (wr.alloc (.cells #[.int .i64 x] 3)).drew u4.heap.size a j c (q.take j) from (unhide HO).step bn.drew)
    have x5 : (wr.alloc (.cells #[.int .i64 x] 3)).drew.cell? ⟨u.heap.size, j, none⟩ = some (.int .i64 x) := (bn.cell (p := ⟨u.heap.size, j, none⟩) (by show u.heap.size < wr.heap.size; omega)).trans x0
    have d5 : (wr.alloc (.cells #[.int .i64 x] 3)).cell? ⟨w.heap.size + 1, 1, none⟩ = some (.slice a j c) := (unhide TA).at (i := 1) rfl
    have ZA := hide (show (wr.alloc (.cells #[.int .i64 x] 3)).drew.heap.size = wr.heap.size + 1 from by simp)
    have HB := hide (unhide HO).btw
    clear bn
    go_wp2_with fail
    refine wp_region_held_drew (S := (fun w' => w'.cell? ⟨u.heap.size, j, none⟩ = some (.int .i64 x))) (by kernel_rfl) x0 (fun hHeld => ?_)
    refine wpAnyH_take (i := 0) (oi := oG0) (v := .pointer (some ⟨w.heap.size + 1, 1, none⟩)) rfl (by kernel_rfl) (by kernel_rfl) (by kernel_rfl) (fun _ _ _ h => h) (Or.inl ⟨by rfl, fun w hSw => ?_⟩) hHeld ?_
    · (try dsimp only at hSw)
      unfold oG0
      go_simp
    try simp only [oG0, Act.put, List.setIfInBounds_toArray, List.set_cons_zero, List.set_cons_succ]
    refine wpAnyH_take (i := 2) (oi := oG2) (v := .pointer (some ⟨u.heap.size, j, none⟩)) rfl (by kernel_rfl) (by kernel_rfl) (by kernel_rfl) (fun _ _ _ h => h) (Or.inl ⟨by rfl, fun w hSw => ?_⟩) hHeld ?_
    · (try dsimp only at hSw)
      unfold oG2
      go_simp
    try simp only [oG2, Act.put, List.setIfInBounds_toArray, List.set_cons_zero, List.set_cons_succ]
    refine wpAnyH_take (i := 3) (oi := oG3) (v := .pointer (some ⟨u.heap.size, j, none⟩)) rfl (by kernel_rfl) (by kernel_rfl) (by kernel_rfl) (fun _ _ _ h => h) (Or.inl ⟨by rfl, fun w hSw => ?_⟩) hHeld ?_
    · (try dsimp only at hSw)
      unfold oG3
      go_simp
    try simp only [oG3, Act.put, List.setIfInBounds_toArray, List.set_cons_zero, List.set_cons_succ]
    refine wpAnyH_take (i := 4) (oi := oG4) (v := .int .i64 x) rfl (by kernel_rfl) (by kernel_rfl) (by kernel_rfl) (fun _ _ _ h => h) (Or.inl ⟨by rfl, fun w hSw => ?_⟩) hHeld ?_
    · (try dsimp only at hSw)
      unfold oG4
      go_simp
    try simp only [oG4, Act.put, List.setIfInBounds_toArray, List.set_cons_zero, List.set_cons_succ]
    refine wpAnyH_ready (rs := [1, 5]) (by kernel_rfl) (by simp) ?_
    refine AllReadyH.cons (o := oG1) rfl (fun K hK => ?_) (AllReadyH.cons (o := oG5) rfl (fun K hK => ?_) AllReadyH.nil)
    · unfold oG1
      go_simp
      refine hK.out _ _ x0 (fun hHeld => ?_)
      clear hK K
      try simp only [oG1, Act.put, List.setIfInBounds_toArray, List.set_cons_zero, List.set_cons_succ]
      refine wpAnyH_ready (rs := [5]) (by kernel_rfl) (by simp) ?_
      refine AllReadyH.cons (o := oG5) rfl (fun K hK => ?_) AllReadyH.nil
      unfold oG5
      go_simp
      refine hK.out _ _ x5 (fun hHeld => ?_)
      clear hK K
      try simp only [oG5, Act.put, List.setIfInBounds_toArray, List.set_cons_zero, List.set_cons_succ]
      refine wpAnyH_ready (rs := [6]) (by kernel_rfl) (by simp) ?_
      refine AllReadyH.cons (o := oG6) rfl (fun K hK => ?_) AllReadyH.nil
      refine step_catO _ (by rfl) _ _ (by rfl) u4.heap.size j c 1 a (q.take j) [x] wr.heap.size 1 (by rfl) (by rfl) (by exact unhide HA) (by omega) (by rfl) (by exact one_at wr x) (by omega) (by have := unhide ZA; omega) ?_
      intro g6 c6 u6 o6 gr6 loc6
      have za := unhide ZA
      have O6 := hide o6
      have k6 := gr6.size
      have T6 := hide ((unhide TA).blk (gr6.block (w.heap.size + 1) (by omega) (VOI.blk_ne (unhide HB) (.inl (by omega)))))
      have x6 : u6.cell? ⟨u.heap.size, j, none⟩ = some (.int .i64 x) := (World.cell?_of_block (gr6.block u.heap.size (by omega) (VOI.blk_ne (unhide HB) (.inl (by omega))))).trans x5
      have d6 := (unhide T6).at (i := 1) rfl
      have f6 := (unhide T6).free 1
      have G6 := hide (show ∀ i, i < u4.heap.size → u6.heap[i]? = wr.heap[i]? from fun i hi => (gr6.block i (by omega) (VOI.blk_ne (unhide HB) (.inl hi))).trans (Below.heap_alloc wr _ _ (by omega)))
      have Y6 := hide (show u6.os = wr.os ∧ u6.tape = wr.tape ∧ u6.output = wr.output from ⟨gr6.os, gr6.tape, gr6.output⟩)
      clear o6 gr6 loc6
      refine hK.out _ _ x6 (fun hHeld => ?_)
      clear hK K
      try simp only [oG6, Act.put, List.setIfInBounds_toArray, List.set_cons_zero, List.set_cons_succ]
      refine wpAnyH_take (i := 7) (oi := oG7) (v := .pointer (some ⟨w.heap.size + 1, 1, none⟩)) rfl (by kernel_rfl) (by kernel_rfl) (by kernel_rfl) (fun _ _ _ h => h) (Or.inl ⟨by rfl, fun w hSw => ?_⟩) hHeld ?_
      · (try dsimp only at hSw)
        unfold oG7
        go_simp
      try simp only [oG7, Act.put, List.setIfInBounds_toArray, List.set_cons_zero, List.set_cons_succ]
      refine wpAnyH_ready (rs := [8]) (by kernel_rfl) (by simp) ?_
      refine AllReadyH.cons (o := oG8) rfl (fun K hK => ?_) AllReadyH.nil
      unfold oG8
      go_simp
      refine hK.out _ _ (cell_off x6 (by omega)) (fun hHeld => ?_)
      clear hK K
      try simp only [oG8, Act.put, List.setIfInBounds_toArray, List.set_cons_zero, List.set_cons_succ]
      refine wpAnyH_done (by kernel_rfl) ?_ _
      obtain ⟨t7, g7⟩ := (unhide T6).set 1 (.slice (some ⟨g6, 0, none⟩) (j + 1) c6)
      have T7 := hide (show Tg (u6.setCell ⟨w.heap.size + 1, 1, none⟩ (.slice (some ⟨g6, 0, none⟩) (j + 1) c6)) base 37 2 (w.heap.size + 1) [.int .i64 k, (.slice (some ⟨g6, 0, none⟩) (j + 1) c6)] from t7)
      have o6l := (unhide O6).lt
      have O7 := hide (show VOI.Ob (u6.setCell ⟨w.heap.size + 1, 1, none⟩ (.slice (some ⟨g6, 0, none⟩) (j + 1) c6)) u4.heap.size (some ⟨g6, 0, none⟩) (j + 1) c6 (q.take (j + 1)) from by
        rw [take_more (unhide HX) (unhide HJ)]
        exact VOI.Ob.of ((unhide O6).kept g7 (by simp; omega)))
      have k7 := g7.size
      have G7 := hide (Gr2.then_ (unhide HG) (w2 := (u6.setCell ⟨w.heap.size + 1, 1, none⟩ (.slice (some ⟨g6, 0, none⟩) (j + 1) c6))) ⟨g7.os.trans (unhide Y6).1, g7.tape.trans (unhide Y6).2.1, g7.output.trans (unhide Y6).2.2, by omega, fun i hi h1 _ => (g7.block i (by omega) (by simpa using h1)).trans ((unhide G6) i hi)⟩)
      clear t7 g7 O6 T6 G6 Y6 x6 d6 f6 x5 x0 d5 d4 pk HX
      go_wp2
      go_roundw
      case rel => exact ⟨j + 1, some ⟨g6, 0, none⟩, c6, by go_num, by omega, T7, O7, G7, by omega⟩
      case measure => simp [intOf]; omega
    · unfold oG5
      go_simp
      refine hK.out _ _ x5 (fun hHeld => ?_)
      clear hK K
      try simp only [oG5, Act.put, List.setIfInBounds_toArray, List.set_cons_zero, List.set_cons_succ]
      refine wpAnyH_ready (rs := [1]) (by kernel_rfl) (by simp) ?_
      refine AllReadyH.cons (o := oG1) rfl (fun K hK => ?_) AllReadyH.nil
      unfold oG1
      go_simp
      refine hK.out _ _ x5 (fun hHeld => ?_)
      clear hK K
      try simp only [oG1, Act.put, List.setIfInBounds_toArray, List.set_cons_zero, List.set_cons_succ]
      refine wpAnyH_ready (rs := [6]) (by kernel_rfl) (by simp) ?_
      refine AllReadyH.cons (o := oG6) rfl (fun K hK => ?_) AllReadyH.nil
      refine step_catO _ (by rfl) _ _ (by rfl) u4.heap.size j c 1 a (q.take j) [x] wr.heap.size 1 (by rfl) (by rfl) (by exact unhide HA) (by omega) (by rfl) (by exact one_at wr x) (by omega) (by have := unhide ZA; omega) ?_
      intro g6 c6 u6 o6 gr6 loc6
      have za := unhide ZA
      have O6 := hide o6
      have k6 := gr6.size
      have T6 := hide ((unhide TA).blk (gr6.block (w.heap.size + 1) (by omega) (VOI.blk_ne (unhide HB) (.inl (by omega)))))
      have x6 : u6.cell? ⟨u.heap.size, j, none⟩ = some (.int .i64 x) := (World.cell?_of_block (gr6.block u.heap.size (by omega) (VOI.blk_ne (unhide HB) (.inl (by omega))))).trans x5
      have d6 := (unhide T6).at (i := 1) rfl
      have f6 := (unhide T6).free 1
      have G6 := hide (show ∀ i, i < u4.heap.size → u6.heap[i]? = wr.heap[i]? from fun i hi => (gr6.block i (by omega) (VOI.blk_ne (unhide HB) (.inl hi))).trans (Below.heap_alloc wr _ _ (by omega)))
      have Y6 := hide (show u6.os = wr.os ∧ u6.tape = wr.tape ∧ u6.output = wr.output from ⟨gr6.os, gr6.tape, gr6.output⟩)
      clear o6 gr6 loc6
      refine hK.out _ _ x6 (fun hHeld => ?_)
      clear hK K
      try simp only [oG6, Act.put, List.setIfInBounds_toArray, List.set_cons_zero, List.set_cons_succ]
      refine wpAnyH_take (i := 7) (oi := oG7) (v := .pointer (some ⟨w.heap.size + 1, 1, none⟩)) rfl (by kernel_rfl) (by kernel_rfl) (by kernel_rfl) (fun _ _ _ h => h) (Or.inl ⟨by rfl, fun w hSw => ?_⟩) hHeld ?_
      · (try dsimp only at hSw)
        unfold oG7
        go_simp
      try simp only [oG7, Act.put, List.setIfInBounds_toArray, List.set_cons_zero, List.set_cons_succ]
      refine wpAnyH_ready (rs := [8]) (by kernel_rfl) (by simp) ?_
      refine AllReadyH.cons (o := oG8) rfl (fun K hK => ?_) AllReadyH.nil
      unfold oG8
      go_simp
      refine hK.out _ _ (cell_off x6 (by omega)) (fun hHeld => ?_)
      clear hK K
      try simp only [oG8, Act.put, List.setIfInBounds_toArray, List.set_cons_zero, List.set_cons_succ]
      refine wpAnyH_done (by kernel_rfl) ?_ _
      obtain ⟨t7, g7⟩ := (unhide T6).set 1 (.slice (some ⟨g6, 0, none⟩) (j + 1) c6)
      have T7 := hide (show Tg (u6.setCell ⟨w.heap.size + 1, 1, none⟩ (.slice (some ⟨g6, 0, none⟩) (j + 1) c6)) base 37 2 (w.heap.size + 1) [.int .i64 k, (.slice (some ⟨g6, 0, none⟩) (j + 1) c6)] from t7)
      have o6l := (unhide O6).lt
      have O7 := hide (show VOI.Ob (u6.setCell ⟨w.heap.size + 1, 1, none⟩ (.slice (some ⟨g6, 0, none⟩) (j + 1) c6)) u4.heap.size (some ⟨g6, 0, none⟩) (j + 1) c6 (q.take (j + 1)) from by
        rw [take_more (unhide HX) (unhide HJ)]
        exact VOI.Ob.of ((unhide O6).kept g7 (by simp; omega)))
      have k7 := g7.size
      have G7 := hide (Gr2.then_ (unhide HG) (w2 := (u6.setCell ⟨w.heap.size + 1, 1, none⟩ (.slice (some ⟨g6, 0, none⟩) (j + 1) c6))) ⟨g7.os.trans (unhide Y6).1, g7.tape.trans (unhide Y6).2.1, g7.output.trans (unhide Y6).2.2, by omega, fun i hi h1 _ => (g7.block i (by omega) (by simpa using h1)).trans ((unhide G6) i hi)⟩)
      clear t7 g7 O6 T6 G6 Y6 x6 d6 f6 x5 x0 d5 d4 pk HX
      go_wp2
      go_roundw
      case rel => exact ⟨j + 1, some ⟨g6, 0, none⟩, c6, by go_num, by omega, T7, O7, G7, by omega⟩
      case measure => simp [intOf]; omega

/-- What is told of a command. -/
def AnsC (w : World) (base : Nat) (r : Int × List Int × Bool) (e : Ending) (w' : World) : Prop :=
  (r = (0, [], false) ∧ e = .returned .nilIface) ∨ ∃ g c, r.2.2 = true ∧ e = .returned (.iface 37 (.agg #[.int .i64 r.1, .slice (some ⟨g, 0, none⟩) r.2.1.length c])) ∧ Ints.Own w' base g r.2.1.length c r.2.1

set_option maxRecDepth 100000 in
theorem iWholeC (w : World) (gl cl : Nat) (xs : List Int) (h20 : xs.length ≤ 1048576) (hc : xs.length ≤ cl) (hg : gl < w.heap.size) (hr : AtB w gl xs) :
    Calls Try.prog 37 #[.slice (some ⟨gl, 0, none⟩) xs.length cl, .func (.func 49) #[] #[]] w fun e w' => AnsC w w.heap.size (readC xs) e w' ∧ Below w.heap.size w w' := by
  have IN := hide (iReadC (w.alloc (.cells #[.int .i64 0] 3)) gl cl w.heap.size w.heap.size xs h20 hc hg (AtB.below hr (one_more _ _) hg) (pl_box w w.heap.size 0 (Nat.le_refl _) rfl))
  have RR := hide (readC_one xs)
  clear hr
  have m1 := me_fitsC
  have m2 := en_fitsC
  generalize oneC xs = r at *
  generalize readC xs = rr at *
  go_enter Try.func37, Try.ntmps37
  go_wp2_with fail
  refine (unhide IN).mono ?_
  rintro e u ⟨bb, h⟩
  have B1 := hide ((one_more w (.cells #[.int .i64 0] 3)).trans bb)
  clear bb IN
  rcases h with ⟨rfl, rfl⟩ | ⟨k, q, s, g, c, rfl, rfl, hp, ho, q7⟩
  · have E := hide (show rr = (0, [], false) from unhide RR)
    go_wp2
    go_ret
    exact ⟨.inl ⟨unhide E, rfl⟩, unhide B1⟩
  · have pc := hp.cell
    have RE := hide (show rr = if s = xs.length ∧ okB k q = true then (k, q, true) else (0, [], false) from unhide RR)
    have O1 := hide ho
    clear hp ho RR
    by_cases hq : s = xs.length
    case neg =>
      have E := hide (show rr = (0, [], false) from by rw [unhide RE, if_neg (fun h => hq h.1)])
      have qn : (s != (xs.length : Int)) = true := by simpa using hq
      clear RE hq
      go_wp2
      go_ret
      exact ⟨.inl ⟨unhide E, rfl⟩, unhide B1⟩
    have qn : (s != (xs.length : Int)) = false := by simp [hq]
    have FR := hide (fitsC u k g c q (okB k q) (by omega) (unhide O1).lt.2 (unhide O1).at (okB_says k q))
    have RF := hide (show rr = if okB k q = true then (k, q, true) else (0, [], false) from by rw [unhide RE]; simp [hq])
    clear RE hq
    generalize okB k q = ok at *
    cases ok with
    | true =>
      have E := hide (show rr = (k, q, true) from by rw [unhide RF]; rfl)
      clear RF
      go_wp2_with fail
      refine (unhide FR).mono ?_
      rintro e u1 ⟨rfl, bb⟩
      replace B1 := hide ((unhide B1).trans (bb.mono (unhide B1).size))
      replace O1 := hide ((unhide O1).below bb (unhide O1).lt.2)
      clear bb pc
      go_wp2
      go_ret
      have e := unhide E
      subst e
      exact ⟨.inr ⟨g, c, rfl, rfl, unhide O1⟩, unhide B1⟩
    | false =>
      have E := hide (show rr = (0, [], false) from by rw [unhide RF]; rfl)
      clear RF
      go_wp2_with fail
      refine (unhide FR).mono ?_
      rintro e u1 ⟨rfl, bb⟩
      replace B1 := hide ((unhide B1).trans (bb.mono (unhide B1).size))
      clear bb pc
      go_wp2
      go_ret
      exact ⟨.inl ⟨unhide E, rfl⟩, unhide B1⟩

theorem as_noC (W : World) : (Instr.typeAssert .nilIface 59 37 true).run Try.prog W = .ok (.tuple #[.agg #[.int .i64 0, .slice none 0 0], .bool false]) W := by kernel_rfl
theorem as_yesC (W : World) (v : Value) : (Instr.typeAssert (.iface 37 v) 59 37 true).run Try.prog W = .ok (.tuple #[v, .bool true]) W := by kernel_rfl

set_option maxRecDepth 100000 in
theorem iCmdRead (w : World) (gl cl : Nat) (xs : List Int) (h20 : xs.length ≤ 1048576) (hc : xs.length ≤ cl) (hg : gl < w.heap.size) (hr : AtB w gl xs) :
    Calls Try.prog 26 #[.slice (some ⟨gl, 0, none⟩) xs.length cl] w fun e w' => ∃ a c, e = .returned (.tuple #[.agg #[.int .i64 (readC xs).1, .slice a (readC xs).2.1.length c], .bool (readC xs).2.2]) ∧ VOI.Ob w' w.heap.size a (readC xs).2.1.length c (readC xs).2.1 ∧ Below w.heap.size w w' := by
  have bb := one_more w (.cells #[.int .i64 0, .slice none 0 0] 37)
  have IN := hide (iWholeC _ gl cl xs h20 hc (Nat.lt_of_lt_of_le hg bb.size) (AtB.below hr bb hg))
  have B0 := hide bb
  have X0 := hide (B2.made (t := 37) (w := w) (.int .i64 0) (.slice none 0 0) (Nat.le_refl _) rfl)
  clear hr bb
  generalize readC xs = r at *
  obtain ⟨k, q, b⟩ := r
  have as1 := as_noC
  have as2 := as_yesC
  go_enter Try.func26, Try.ntmps26
  go_wp2_with fail
  refine (unhide IN).mono ?_
  rintro e u ⟨h, bb⟩
  have B1 := hide ((unhide B0).trans (bb.mono (unhide B0).size))
  have X1 := hide ((unhide X0).below bb (unhide X0).lt.2)
  clear bb X0 B0 IN
  have f1 := (unhide X1).free 0
  have f2 := (unhide X1).free 1
  have c0 := (unhide X1).c0
  have c1 := (unhide X1).c1
  have lt := (unhide X1).lt
  rcases h with ⟨h, rfl⟩ | ⟨g, c, h, rfl, ho⟩
  · obtain ⟨rfl, rfl, rfl⟩ : k = 0 ∧ q = [] ∧ b = false := by simpa using h
    have T9 := IRead12.two_end (unhide X1) (.int .i64 0) (.slice none 0 0) (.cells #[.int .i64 0, .slice none 0 0] 37)
    have e0 := T9.at (i := 0) rfl
    have e1 := T9.at (i := 1) rfl
    clear T9
    go_wp2
    refine bodyPost_ret (v := .tuple #[.agg #[.int .i64 0, .slice none 0 0], .bool false]) (by simp [results, Try.results26, go_sem, e0, e1]) rfl ⟨none, 0, rfl, VOI.Ob.nil _ _, ?_⟩
    exact (((unhide B1).setCell (p := ⟨w.heap.size, 0, none⟩) (by simp) _).setCell (p := ⟨w.heap.size, 1, none⟩) (by simp) _).alloc (by have := (unhide B1).size; simpa using this) _
  · obtain rfl : b = true := h
    simp only at ho
    have O1 := hide (Ints.Own.mono ho (show w.heap.size ≤ _ by simp))
    have hl := ho.lt
    have gn : ¬ w.heap.size = g := by have := hl.1; simp at this; omega
    have T9 := IRead12.two_end (unhide X1) (.int .i64 k) (.slice (some ⟨g, 0, none⟩) q.length c) (.cells #[.int .i64 k, .slice (some ⟨g, 0, none⟩) q.length c] 37)
    have e0 := T9.at (i := 0) rfl
    have e1 := T9.at (i := 1) rfl
    have O2 := hide (SPuts11.own_allocI (row_off (row_off (unhide O1) (a := ⟨w.heap.size, 0, none⟩) gn (.int .i64 k)) (a := ⟨w.heap.size, 1, none⟩) gn (.slice (some ⟨g, 0, none⟩) q.length c)) (.cells #[.int .i64 k, .slice (some ⟨g, 0, none⟩) q.length c] 37))
    clear T9 ho hl
    go_wp2
    refine bodyPost_ret (v := .tuple #[.agg #[.int .i64 k, .slice (some ⟨g, 0, none⟩) q.length c], .bool true]) (by simp [results, Try.results26, go_sem, e0, e1]) rfl ⟨some ⟨g, 0, none⟩, c, rfl, VOI.Ob.of (unhide O2), ?_⟩
    exact (((unhide B1).setCell (p := ⟨w.heap.size, 0, none⟩) (by simp) _).setCell (p := ⟨w.heap.size, 1, none⟩) (by simp) _).alloc (by have := (unhide B1).size; simpa using this) _

end Go.Proofs.Ytnkbkaeafkdpiaa.IReadC12
