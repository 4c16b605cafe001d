/- Commands and replies from bytes: the program's ReplyRead. -/
import Derived.Test.YtnkbkaeafkdpiaaIInto12
import Derived.Test.YtnkbkaeafkdpiaaIPack12
import Derived.Test.YtnkbkaeafkdpiaaSRead12
namespace Go.Proofs.Ytnkbkaeafkdpiaa.IRead12
open Go.ChangeShapes Go.WideShapes Go.ChangeAt Go.RowKit SBytes SPut11 SPuts11 SPack12 IRd11 IInto12 IMsg12 IPack12 SRead12
open ICmd10 (Ptr)
open Lots (Says says_of)
set_option linter.unusedVariables false
set_option linter.unusedSimpArgs false

/-- What a reader of messages tells: nothing, or a message, and the place behind it. -/
def Told (w : World) (base p : Nat) (r : Option (Int × Int × Int)) (e : Ending) (w' : World) : Prop :=
  Below base w w' ∧ ((r = none ∧ e = .returned .nilIface) ∨ ∃ c v q, r = some (c, v, q) ∧ e = .returned (.iface 25 (.agg #[.int .i64 c, .int .i64 v])) ∧ Pl w' base p q)

/-- The reply that is read, and the place behind it. -/
def twoR (xs : List Int) : Option (Int × Int × Int) := if (gets xs 2 0 []).2.2 = true then some ((gets xs 2 0 []).1.getD 0 0, (gets xs 2 0 []).1.getD 1 0 - 1000000000000000, (gets xs 2 0 []).2.1) else none

theorem getsN_two (xs : List Int) : getsN xs 0 2 = gets xs 2 0 [] := by
  unfold getsN
  rw [if_pos (by omega)]
  rfl

theorem readR_two (xs : List Int) : readR xs = match twoR xs with | none => (0, 0, false) | some (c, v, q) => if q = xs.length ∧ RpOk c v then (c, v, true) else (0, 0, false) := by
  unfold readR twoR
  rw [getsN_two]
  by_cases h : (gets xs 2 0 []).2.2 = true
  · simp [h]
  · simp [h]

theorem ptr2 (u : World) (d : Nat) : Ptr (u.alloc (.cells #[.pointer (some ⟨d, 0, none⟩), .pointer (some ⟨d, 1, none⟩)] 78)) u.heap.size d 2 := by
  intro i hi
  have : i = 0 ∨ i = 1 := by omega
  rcases this with rfl | rfl <;> simp

set_option maxRecDepth 100000 in
theorem iReadR (w : World) (gl cl p base : Nat) (xs : List Int) (h20 : xs.length ≤ 1048576) (hc : xs.length ≤ cl) (hg : gl < base) (hr : AtB w gl xs) (hp : Pl w base p 0) :
    Calls Try.prog 38 #[.agg #[.slice (some ⟨gl, 0, none⟩) xs.length cl, .pointer (some ⟨p, 0, none⟩)]] w (Told w base p (twoR xs)) := by
  have lp := hp.lt
  let A1 := w.alloc (.cells #[.slice (some ⟨gl, 0, none⟩) xs.length cl, .pointer (some ⟨p, 0, none⟩)] 80)
  let A2 := A1.alloc (.cells #[.int .i64 0, .int .i64 0] 25)
  let A3 := A2.alloc (.cells #[.pointer (some ⟨w.heap.size + 1, 0, none⟩), .pointer (some ⟨w.heap.size + 1, 1, none⟩)] 78)
  have z1 : A1.heap.size = w.heap.size + 1 := by simp [A1]
  have z2 : A2.heap.size = w.heap.size + 2 := by simp [A2, z1]
  have z3 : A3.heap.size = w.heap.size + 3 := by simp [A3, z2]
  have b1 : Below w.heap.size w A1 := one_more _ _
  have b2 : Below w.heap.size w A2 := b1.alloc (by omega) _
  have b3 : Below w.heap.size w A3 := b2.alloc (by omega) _
  have t2 : Tg A2 base 25 2 (w.heap.size + 1) [.int .i64 0, .int .i64 0] := by
    have := World.ownsRow_lit (base := base) (size := 2) (e := 25) A1 #[.int .i64 0, .int .i64 0] 1 (by omega) (by decide) rfl
    rw [z1] at this
    exact this
  have t3 : Tg A3 base 25 2 (w.heap.size + 1) [.int .i64 0, .int .i64 0] := t2.step (one_more _ _)
  have P3 := hide (hp.below b3 lp.2)
  have R3 := hide (AtB.below hr b3 (by omega))
  have T3 := hide t3
  have Q3 := hide (show Ptr A3 (w.heap.size + 2) (w.heap.size + 1) 2 from by have := ptr2 A2 (w.heap.size + 1); rw [z2] at this; exact this)
  have IN := hide (iInto A3 gl cl p base 25 2 (w.heap.size + 1) (w.heap.size + 2) 2 2 xs 0 [.int .i64 0, .int .i64 0] (by omega) h20 hc hg (unhide R3) (unhide P3) t3 (fun i hi => by
    have : i = 0 ∨ i = 1 := by omega
    rcases this with rfl | rfl <;> exact ⟨0, rfl⟩) (unhide Q3) (by omega) (by omega) (by omega) (by omega) (by omega))
  have B3 := hide (b3.mono (show base ≤ w.heap.size by omega))
  have Z3 := hide z3
  have FU := hide (gets_full xs 2 0 [])
  have TW := hide (show twoR xs = if (gets xs 2 0 []).2.2 = true then some ((gets xs 2 0 []).1.getD 0 0, (gets xs 2 0 []).1.getD 1 0 - 1000000000000000, (gets xs 2 0 []).2.1) else none from rfl)
  have TP := hide (gets_top xs 2 0 [] (by simp))
  clear hr hp t2 t3 b1 b2 b3 z1 z2 z3 T3 Q3 R3 P3
  generalize gets xs 2 0 [] = r at *
  generalize twoR xs = tw at *
  obtain ⟨r0, r1, r2⟩ := r
  go_enter Try.func38, Try.ntmps38
  go_wp2_with fail
  refine (unhide IN).mono ?_
  rintro e u ⟨rfl, g1, h1⟩
  have us := g1.size
  have B4 := hide ((unhide B3).trans (g1.to (B := base) (by have := unhide Z3; omega) lp.1 (by omega)))
  clear g1
  cases r2 with
  | false =>
    have TN := hide (show tw = none from by rw [unhide TW]; rfl)
    clear TW TP FU h1
    go_wp2
    go_ret
    exact ⟨unhide B4, .inl ⟨unhide TN, rfl⟩⟩
  | true =>
    obtain ⟨p1, t1⟩ := h1 rfl
    have fl := (unhide FU) rfl
    match r0, fl with
    | [a, b], _ =>
    have hb := (unhide TP) b (by simp)
    have TN := hide (show tw = some (a, b - 1000000000000000, r1) from by rw [unhide TW]; rfl)
    have T1 := hide (show Tg u base 25 2 (w.heap.size + 1) [.int .i64 a, .int .i64 b] from t1)
    have c0 : u.cell? ⟨w.heap.size + 1, 0, none⟩ = some (.int .i64 a) := (unhide T1).at rfl
    have c1 : u.cell? ⟨w.heap.size + 1, 1, none⟩ = some (.int .i64 b) := (unhide T1).at rfl
    have f1 := (unhide T1).free 1
    have lt := (unhide T1).lt
    obtain ⟨t2, g2⟩ := (unhide T1).set 1 (.int .i64 (b - 1000000000000000))
    have P2 := hide (Ints.Own.kept p1 g2 (by simp; omega))
    have B5 := hide ((unhide B4).grown g2 (by omega) (fun j hj => by cases hj; omega))
    have d0 : (u.setCell ⟨w.heap.size + 1, 1, none⟩ (.int .i64 (b - 1000000000000000))).cell? ⟨w.heap.size + 1, 0, none⟩ = some (.int .i64 a) := t2.at rfl
    have d1 : (u.setCell ⟨w.heap.size + 1, 1, none⟩ (.int .i64 (b - 1000000000000000))).cell? ⟨w.heap.size + 1, 1, none⟩ = some (.int .i64 (b - 1000000000000000)) := t2.at rfl
    have q1 : wrap64 (b - 1000000000000000) = b - 1000000000000000 := by rw [wrap64]; omega
    have q2 : IntKind.i64.wrap (b - 1000000000000000) = b - 1000000000000000 := by rw [IntKind.wrap_i64]; omega
    clear TW TP FU h1 p1 t1 t2 g2 fl
    go_wp2
    go_ret
    exact ⟨unhide B5, .inr ⟨a, b - 1000000000000000, r1, unhide TN, rfl, unhide P2⟩⟩

/-- What is told of a reply. -/
def ansR (r : Int × Int × Bool) : Value := if r.2.2 = true then .iface 25 (.agg #[.int .i64 r.1, .int .i64 r.2.1]) else .nilIface

set_option maxRecDepth 100000 in
theorem iWholeR (w : World) (gl cl : Nat) (xs : List Int) (h20 : xs.length ≤ 1048576) (hc : xs.length ≤ cl) (hg : gl < w.heap.size) (hr : AtB w gl xs) :
    Calls Try.prog 37 #[.slice (some ⟨gl, 0, none⟩) xs.length cl, .func (.func 38) #[] #[]] w fun e w' => e = .returned (ansR (readR xs)) ∧ Below w.heap.size w w' := by
  have IN := hide (iReadR (w.alloc (.cells #[.int .i64 0] 3)) gl cl w.heap.size w.heap.size xs h20 hc hg (AtB.below hr (one_more _ _) hg) (pl_box w w.heap.size 0 (Nat.le_refl _) rfl))
  have RR := hide (readR_two xs)
  clear hr
  have m1 := me_fitsR
  have m2 := en_fitsR
  generalize twoR xs = r at *
  generalize readR xs = rr at *
  go_enter Try.func37, Try.ntmps37
  go_wp2_with fail
  refine (unhide IN).mono ?_
  rintro e u ⟨bb, h⟩
  have B1 := hide ((one_more w (.cells #[.int .i64 0] 3)).trans bb)
  clear bb IN
  rcases h with ⟨rfl, rfl⟩ | ⟨c, v, q, rfl, rfl, hp⟩
  · have E := hide (show ansR rr = .nilIface from by rw [unhide RR]; rfl)
    go_wp2
    go_ret
    exact ⟨by rw [unhide E]; rfl, unhide B1⟩
  · have pc := hp.cell
    have RE := hide (show rr = if q = xs.length ∧ RpOk c v then (c, v, true) else (0, 0, false) from unhide RR)
    clear hp RR
    by_cases hq : q = xs.length
    case neg =>
      have E := hide (show ansR rr = .nilIface from by rw [unhide RE, if_neg (fun h => hq h.1)]; rfl)
      have qn : (q != (xs.length : Int)) = true := by simpa using hq
      clear RE hq
      go_wp2
      go_ret
      exact ⟨by rw [unhide E]; rfl, unhide B1⟩
    have qn : (q != (xs.length : Int)) = false := by simp [hq]
    have FR := hide (fitsR u c v)
    by_cases ok : RpOk c v
    · have E := hide (show ansR rr = .iface 25 (.agg #[.int .i64 c, .int .i64 v]) from by rw [unhide RE, if_pos ⟨hq, ok⟩]; rfl)
      rw [show decide (RpOk c v) = true by simpa using ok] at FR
      clear RE hq ok
      go_wp2_with fail
      refine (unhide FR).mono ?_
      rintro e u1 ⟨rfl, bb⟩
      replace B1 := hide ((unhide B1).trans (bb.mono (unhide B1).size))
      clear bb pc
      go_wp2
      go_ret
      exact ⟨by rw [unhide E]; rfl, unhide B1⟩
    · have E := hide (show ansR rr = .nilIface from by rw [unhide RE, if_neg (fun h => ok h.2)]; rfl)
      rw [show decide (RpOk c v) = false by simpa using ok] at FR
      clear RE hq ok
      go_wp2_with fail
      refine (unhide FR).mono ?_
      rintro e u1 ⟨rfl, bb⟩
      replace B1 := hide ((unhide B1).trans (bb.mono (unhide B1).size))
      clear bb pc
      go_wp2
      go_ret
      exact ⟨by rw [unhide E]; rfl, unhide B1⟩

theorem two_end {u : World} {base t g : Nat} {v0 v1 : Value} (h : B2 t u base g v0 v1) (a b : Value) (o : Obj) : Tg (((u.setCell ⟨g, 0, none⟩ a).setCell ⟨g, 1, none⟩ b).alloc o) base t 2 g [a, b] :=
  ((Tg.set (Tg.set (show Tg u base t 2 g [v0, v1] from h) 0 a).1 1 b).1).step (one_more _ _)

theorem as_noR (W : World) : (Instr.typeAssert .nilIface 59 25 true).run Try.prog W = .ok (.tuple #[.agg #[.int .i64 0, .int .i64 0], .bool false]) W := by kernel_rfl
theorem as_yesR (W : World) (v : Value) : (Instr.typeAssert (.iface 25 v) 59 25 true).run Try.prog W = .ok (.tuple #[v, .bool true]) W := by kernel_rfl

theorem readR_no {xs : List Int} (h : (readR xs).2.2 = false) : readR xs = (0, 0, false) := by
  unfold readR at h ⊢
  split at h
  · simp at h
  · next c => rw [if_neg c]

set_option maxRecDepth 100000 in
theorem iReplyRead (w : World) (gl cl : Nat) (xs : List Int) (h20 : xs.length ≤ 1048576) (hc : xs.length ≤ cl) (hg : gl < w.heap.size) (hr : AtB w gl xs) :
    Calls Try.prog 12 #[.slice (some ⟨gl, 0, none⟩) xs.length cl] w fun e w' => e = .returned (.tuple #[.agg #[.int .i64 (readR xs).1, .int .i64 (readR xs).2.1], .bool (readR xs).2.2]) ∧ Below w.heap.size w w' := by
  have bb := one_more w (.cells #[.int .i64 0, .int .i64 0] 25)
  have IN := hide (iWholeR _ gl cl xs h20 hc (Nat.lt_of_lt_of_le hg bb.size) (AtB.below hr bb hg))
  have B0 := hide bb
  have X0 := hide (B2.made (t := 25) (w := w) (.int .i64 0) (.int .i64 0) (Nat.le_refl _) rfl)
  have NO := hide (readR_no (xs := xs))
  clear hr bb
  generalize readR xs = r at *
  obtain ⟨c, v, b⟩ := r
  have as1 := as_noR
  have as2 := as_yesR
  go_enter Try.func12, Try.ntmps12
  go_wp2_with fail
  refine (unhide IN).mono ?_
  rintro e u ⟨rfl, bb⟩
  have B1 := hide ((unhide B0).trans (bb.mono (unhide B0).size))
  have X1 := hide ((unhide X0).below bb (unhide X0).lt.2)
  clear bb X0 B0 IN
  have f1 := (unhide X1).free 0
  have f2 := (unhide X1).free 1
  have c0 := (unhide X1).c0
  have c1 := (unhide X1).c1
  have lt := (unhide X1).lt
  cases b with
  | false =>
    obtain ⟨rfl, rfl⟩ : c = 0 ∧ v = 0 := by have := (unhide NO) rfl; simpa using this
    rw [show ansR (0, 0, false) = .nilIface from rfl]
    have T9 := two_end (unhide X1) (.int .i64 0) (.int .i64 0) (.cells #[.int .i64 0, .int .i64 0] 25)
    have e0 := T9.at (i := 0) rfl
    have e1 := T9.at (i := 1) rfl
    clear T9
    go_wp2
    refine bodyPost_ret (v := .tuple #[.agg #[.int .i64 0, .int .i64 0], .bool false]) (by simp [results, Try.results12, go_sem, e0, e1]) rfl ⟨rfl, ?_⟩
    exact (((unhide B1).setCell (p := ⟨w.heap.size, 0, none⟩) (by simp) _).setCell (p := ⟨w.heap.size, 1, none⟩) (by simp) _).alloc (by have := (unhide B1).size; simpa using this) _
  | true =>
    rw [show ansR (c, v, true) = .iface 25 (.agg #[.int .i64 c, .int .i64 v]) from rfl]
    have T9 := two_end (unhide X1) (.int .i64 c) (.int .i64 v) (.cells #[.int .i64 c, .int .i64 v] 25)
    have e0 := T9.at (i := 0) rfl
    have e1 := T9.at (i := 1) rfl
    clear T9
    go_wp2
    refine bodyPost_ret (v := .tuple #[.agg #[.int .i64 c, .int .i64 v], .bool true]) (by simp [results, Try.results12, go_sem, e0, e1]) rfl ⟨rfl, ?_⟩
    exact (((unhide B1).setCell (p := ⟨w.heap.size, 0, none⟩) (by simp) _).setCell (p := ⟨w.heap.size, 1, none⟩) (by simp) _).alloc (by have := (unhide B1).size; simpa using this) _

end Go.Proofs.Ytnkbkaeafkdpiaa.IRead12
