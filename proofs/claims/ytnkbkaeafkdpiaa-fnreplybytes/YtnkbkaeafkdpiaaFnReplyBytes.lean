/- For every row of bytes the law of replies' bytes returns true: a reply that the bytes draw is read from its bytes as it was; bytes that are read pack to just themselves. No condition. -/
import Derived.Test.YtnkbkaeafkdpiaaRows
import Derived.Test.YtnkbkaeafkdpiaaByteH
import Derived.Test.YtnkbkaeafkdpiaaVOB
import Derived.Test.YtnkbkaeafkdpiaaInts
import Derived.Test.YtnkbkaeafkdpiaaSBytes
import Derived.Test.YtnkbkaeafkdpiaaLaw11
import Derived.Test.YtnkbkaeafkdpiaaLawS11
import Derived.Test.YtnkbkaeafkdpiaaVOI
import Derived.Test.YtnkbkaeafkdpiaaLaw12
import Derived.Test.YtnkbkaeafkdpiaaSPut11
import Derived.Test.YtnkbkaeafkdpiaaIRd11
import Derived.Test.YtnkbkaeafkdpiaaSPuts11
import Derived.Test.YtnkbkaeafkdpiaaSGets11
import Derived.Test.YtnkbkaeafkdpiaaIGets11
import Derived.Test.YtnkbkaeafkdpiaaTup5
import Derived.Test.YtnkbkaeafkdpiaaLots
import Derived.Test.YtnkbkaeafkdpiaaSCmd
import Derived.Test.YtnkbkaeafkdpiaaICmd10
import Derived.Test.YtnkbkaeafkdpiaaICall10
import Derived.Test.YtnkbkaeafkdpiaaIInto12
import Derived.Test.YtnkbkaeafkdpiaaIPuts11
import Derived.Test.YtnkbkaeafkdpiaaSPack12
import Derived.Test.YtnkbkaeafkdpiaaSPackC12
import Derived.Test.YtnkbkaeafkdpiaaIMsg12
import Derived.Test.YtnkbkaeafkdpiaaIPack12
import Derived.Test.YtnkbkaeafkdpiaaSRead12
import Derived.Test.YtnkbkaeafkdpiaaIRead12
import Derived.Test.YtnkbkaeafkdpiaaPairs
import Derived.Test.YtnkbkaeafkdpiaaDraw
import Derived.Test.YtnkbkaeafkdpiaaDraw11
import Derived.Test.YtnkbkaeafkdpiaaDrawB12
import Derived.Test.YtnkbkaeafkdpiaaRT11
import Derived.Test.YtnkbkaeafkdpiaaRT12
import Derived.Test.YtnkbkaeafkdpiaaCode12
import Derived.Laws.BytesArg
import Derived.ShutString
import Derived.ChangeOld
import Derived.Below
namespace Go.Proofs.Ytnkbkaeafkdpiaa.fnReplyBytes
open Go.ChangeShapes Go.WideShapes Go.ChangeAt Go.RowKit
open Go.ChangeMaps (open_string shut_string)
set_option linter.unusedVariables false
set_option linter.unusedSimpArgs false

theorem own : ownKnob Try.prog.godebug = none := by kernel_rfl
theorem laidOut : laidOutB Try.prog = true := by kernel_rfl

open SBytes SPut11 SPuts11 SPack12 SRead12 DrawB12 RT12
open Draw (CodeAt)

theorem own_capB {w : World} {base g n cap : Nat} {xs : List Int} (h : ByteH.Own w base g n cap xs) : n ≤ cap := by
  rcases h.2 with ⟨h1, _⟩ | ⟨g', c, cur, h1, _, _, h4, _⟩
  · simp at h1
  · obtain ⟨_, e⟩ : g = g' ∧ cap = c := by simpa using h1
    subst e
    exact h4

theorem get_in {xs : List Int} (h : By xs) (i : Nat) (hi : i < xs.length) : 0 ≤ xs.getD i 0 ∧ xs.getD i 0 ≤ 255 := by
  have e : xs.getD i 0 = xs[i] := by simp [List.getD, hi]
  rw [e]
  exact h _ (List.getElem_mem _)

theorem read_zero (xs : List Int) : (readR xs).2.2 = false → (readR xs).1 = 0 ∧ (readR xs).2.1 = 0 := by
  unfold readR
  split
  · simp
  · simp

theorem pack_ne (x y : Int) (h : RpOk x y) : (packR x y).length ≠ 0 := by
  unfold packR
  rw [if_pos h, List.length_append, numB_pos h.1.1]
  have : (numF x.toNat).length ≠ 0 := fun e => RT11.numF_ne x.toNat (List.eq_nil_of_length_eq_zero e)
  omega

theorem str_of {w : World} {base n cap : Nat} {a : Option Addr} {xs : List Int} (h : VOB.Ob w base a n cap xs) : (convert 22 9 (.slice a n cap)).run Try.prog w = .ok (.string (strOfNums xs)) w := by
  have hl := h.len
  rcases h.either with ⟨rfl, rfl, rfl⟩ | ⟨g, rfl, o⟩
  · exact run_convert_bytes_nil w _ _ Try.underlying22 Try.underlying5 0 cap _ Try.underlying9
  · exact run_convert_bytes_arg w _ _ Try.underlying22 Try.underlying5 g 0 n cap xs hl (fun i hi => by rw [Nat.zero_add]; exact o.at i (by omega)) _ Try.underlying9


set_option maxRecDepth 100000 in
set_option maxHeartbeats 8000000 in
theorem walk (a0 : Option Addr) (len0 cap0 : Nat) (z0 : List Int) (w : World) (w0 : Ints.IsRow .u8 w a0 len0 cap0 z0) :
    Calls Try.prog 3 #[.slice a0 len0 cap0] w fun e w' => e = .returned (.bool true) ∧ Below w.heap.size w w' := by
  have hc := Code12.codeAt w0
  have hm := (Law11.row_bytes w0).2.2.2
  clear w0
  by_cases tl : (len0 : Int) ≤ 1048576
  case neg =>
    have HC := hide hc
    clear hc
    go_enter Try.func3, Try.ntmps3
    go_wp2
    go_ret
    exact ⟨rfl, Below.refl _ _⟩
  have HC := hide hc
  have TL : len0 ≤ 1048576 := by omega
  clear hc hm
  go_enter Try.func3, Try.ntmps3
  go_wp2_with (first | (go_at_call 8; go_in) | fail)
  refine (drawRP _ a0 len0 cap0 TL (unhide HC)).mono ?_
  rintro e u1 ⟨x, y, rfl, b1⟩
  have B := hide b1
  clear b1
  have bb := Law12.one_more u1 (.cells #[.int .i64 x, .int .i64 y] 25)
  replace B := hide ((unhide B).trans (bb.mono (unhide B).size))
  have KR := hide (Law12.Kb.made u1 (.int .i64 x) (.int .i64 y) 25)
  have SZKR := hide bb.size
  clear bb
  have IP := hide (fun u => IPack12.iReplyPack u x y)
  have SP := hide (fun u => sReplyPack u x y)
  generalize hb : decide (RpOk x y) = b at IP SP
  have HB := hide hb
  clear hb
  have RP := hide (fun h => read_pack x y h)
  have QL := hide (pack_le x y)
  have PB := hide (by_pack x y)
  have NP := hide (pack_ne x y)
  have p0 := (unhide KR).c0
  have p1 := (unhide KR).c1
  go_wp2_with fail
  refine ((unhide IP) _).mono ?_
  rintro e u2 ⟨a2, c2, rfl, o2, bb⟩
  replace B := hide ((unhide B).trans (bb.mono (unhide B).size))
  replace KR := hide ((unhide KR).step bb)
  clear p0 p1
  have O2 := hide o2
  clear bb o2
  have p0 := (unhide KR).c0
  have p1 := (unhide KR).c1
  go_wp2_with fail
  refine ((unhide SP) _).mono ?_
  rintro e u3 ⟨g3, c3, rfl, _, bb⟩
  replace B := hide ((unhide B).trans (bb.mono (unhide B).size))
  replace KR := hide ((unhide KR).step bb)
  replace O2 := hide ((unhide O2).step bb)
  clear p0 p1
  clear bb
  have q1 : ∀ b : Bool, (b != b) = false := by simp
  by_cases ok : RpOk x y
  case neg =>
    obtain rfl : b = false := by rw [← unhide HB]; simpa using ok
    have q2 := q1 false
    clear q1
    have HC2 := hide ((unhide HC).below (unhide B))
    go_wp2_with fail
    refine (drawRR _ a0 len0 cap0 TL (unhide HC2)).mono ?_
    rintro e v1 ⟨ys, gy, ky, rfl, oy, ly, yb, bb⟩
    replace B := hide ((unhide B).trans (bb.mono (unhide B).size))
    have OY := hide oy
    have YB := hide (show ∀ i, i < ys.length → 0 ≤ ys.getD i 0 ∧ ys.getD i 0 ≤ 255 from fun i hi => get_in yb i hi)
    have ky1 := own_capB oy
    clear bb oy yb HC2
    have PR := hide (pack_read ys (unhide YB))
    have IR := hide (fun u hg hr => IRead12.iReplyRead u gy ky ys (by omega) ky1 hg hr)
    have SR := hide (fun u hg hr => sReplyRead u gy ky ys (by omega) hg hr)
    have ZR := hide (read_zero ys)
    generalize readR ys = y at *
    obtain ⟨r1, r2, r3⟩ := y
    simp only at PR ZR
    have q3 : (r3 != r3) = false := by simp
    go_wp2_with fail
    refine ((unhide IR) _ (unhide OY).lt.2 (fun i hi => ⟨(unhide OY).at i hi, (unhide YB) i hi⟩)).mono ?_
    rintro e v2 ⟨rfl, bb⟩
    replace B := hide ((unhide B).trans (bb.mono (unhide B).size))
    replace OY := hide ((unhide OY).below bb (unhide OY).lt.2)
    clear bb
    have bb := Law12.one_more v2 (.cells #[.int .i64 r1, .int .i64 r2] 25)
    replace B := hide ((unhide B).trans (bb.mono (unhide B).size))
    replace OY := hide ((unhide OY).below bb (unhide OY).lt.2)
    have KX := hide (Law12.Kb.made v2 (.int .i64 r1) (.int .i64 r2) 25)
    clear bb
    go_wp2_with fail
    refine ((unhide SR) _ (unhide OY).lt.2 (fun i hi => ⟨(unhide OY).at i hi, (unhide YB) i hi⟩)).mono ?_
    rintro e v3 ⟨rfl, bb⟩
    replace B := hide ((unhide B).trans (bb.mono (unhide B).size))
    replace OY := hide ((unhide OY).below bb (unhide OY).lt.2)
    replace KX := hide ((unhide KX).step bb)
    clear bb
    have bb := Law12.one_more v3 (.cells #[.int .i64 r1, .int .i64 r2] 25)
    replace B := hide ((unhide B).trans (bb.mono (unhide B).size))
    replace OY := hide ((unhide OY).below bb (unhide OY).lt.2)
    replace KX := hide ((unhide KX).step bb)
    clear bb
    have p0 := (unhide KX).c0
    have p1 := (unhide KX).c1
    go_wp2_with fail
    refine (IPack12.iReplyPack _ r1 r2).mono ?_
    rintro e v4 ⟨a4, c4, rfl, o4, bb⟩
    replace B := hide ((unhide B).trans (bb.mono (unhide B).size))
    replace OY := hide ((unhide OY).below bb (unhide OY).lt.2)
    replace KX := hide ((unhide KX).step bb)
    have O4 := hide o4
    clear bb o4 p0 p1
    have p0 := (unhide KX).c0
    have p1 := (unhide KX).c1
    cases r3 with
    | false =>
      obtain ⟨rfl, rfl⟩ := (unhide ZR) rfl
      go_wp2
      go_ret
      exact ⟨rfl, unhide B⟩
    | true =>
      obtain ⟨ok2, pk⟩ := (unhide PR) rfl
      have d2 : decide (RpOk r1 r2) = true := by simpa using ok2
      rw [pk] at O4 ⊢
      rw [d2]
      have sc1 := str_of (unhide O4)
      have sc2 := str_of (VOB.Ob.of (unhide OY))
      generalize strOfNums ys = st at *
      clear d2 ok2 pk
      go_wp2
      go_ret
      exact ⟨rfl, unhide B⟩
  obtain rfl : b = true := by rw [← unhide HB]; simpa using ok
  have q2 := q1 true
  have RE := hide ((unhide RP) ok)
  have nz := (unhide NP) ok
  clear q1 IP SP HB
  generalize packR x y = ps at *
  obtain ⟨g2, rfl, ow⟩ : ∃ g, a2 = some ⟨g, 0, none⟩ ∧ ByteH.Own u3 (u1.alloc (.cells #[.int .i64 x, .int .i64 y] 25)).heap.size g ps.length c2 ps := by
    rcases (unhide O2).either with ⟨_, h, _⟩ | h
    · exact absurd h nz
    · exact h
  have OW := hide ow
  clear ow O2 nz ok
  have IR := hide (IRead12.iReplyRead u3 g2 c2 ps (Nat.le_trans (unhide QL) (by omega)) (own_capB (unhide OW)) (unhide OW).lt.2 (fun i hi => ⟨(unhide OW).at i hi, get_in (unhide PB) i hi⟩))
  rw [unhide RE] at IR
  go_wp2_with fail
  refine (unhide IR).mono ?_
  rintro e u4 ⟨rfl, bb⟩
  replace B := hide ((unhide B).trans (bb.mono (unhide B).size))
  replace KR := hide ((unhide KR).step bb)
  clear bb IR
  have bb := Law12.one_more u4 (.cells #[.int .i64 x, .int .i64 y] 25)
  replace B := hide ((unhide B).trans (bb.mono (unhide B).size))
  replace KR := hide ((unhide KR).step bb)
  have KB := hide (Law12.Kb.made u4 (.int .i64 x) (.int .i64 y) 25)
  have SZKB := hide bb.size
  clear bb
  have p0 := (unhide KR).c0
  have p1 := (unhide KR).c1
  have p2 := (unhide KB).c0
  have p3 := (unhide KB).c1
  have HC2 := hide ((unhide HC).below (unhide B))
  go_wp2_with fail
  refine (drawRR _ a0 len0 cap0 TL (unhide HC2)).mono ?_
  rintro e v1 ⟨ys, gy, ky, rfl, oy, ly, yb, bb⟩
  clear p0 p1 p2 p3
  replace B := hide ((unhide B).trans (bb.mono (unhide B).size))
  have OY := hide oy
  have YB := hide (show ∀ i, i < ys.length → 0 ≤ ys.getD i 0 ∧ ys.getD i 0 ≤ 255 from fun i hi => get_in yb i hi)
  have ky1 := own_capB oy
  clear bb oy yb HC2
  have PR := hide (pack_read ys (unhide YB))
  have IR := hide (fun u hg hr => IRead12.iReplyRead u gy ky ys (by omega) ky1 hg hr)
  have SR := hide (fun u hg hr => sReplyRead u gy ky ys (by omega) hg hr)
  have ZR := hide (read_zero ys)
  generalize readR ys = y at *
  obtain ⟨r1, r2, r3⟩ := y
  simp only at PR ZR
  have q3 : (r3 != r3) = false := by simp
  go_wp2_with fail
  refine ((unhide IR) _ (unhide OY).lt.2 (fun i hi => ⟨(unhide OY).at i hi, (unhide YB) i hi⟩)).mono ?_
  rintro e v2 ⟨rfl, bb⟩
  replace B := hide ((unhide B).trans (bb.mono (unhide B).size))
  replace OY := hide ((unhide OY).below bb (unhide OY).lt.2)
  clear bb
  have bb := Law12.one_more v2 (.cells #[.int .i64 r1, .int .i64 r2] 25)
  replace B := hide ((unhide B).trans (bb.mono (unhide B).size))
  replace OY := hide ((unhide OY).below bb (unhide OY).lt.2)
  have KX := hide (Law12.Kb.made v2 (.int .i64 r1) (.int .i64 r2) 25)
  clear bb
  go_wp2_with fail
  refine ((unhide SR) _ (unhide OY).lt.2 (fun i hi => ⟨(unhide OY).at i hi, (unhide YB) i hi⟩)).mono ?_
  rintro e v3 ⟨rfl, bb⟩
  replace B := hide ((unhide B).trans (bb.mono (unhide B).size))
  replace OY := hide ((unhide OY).below bb (unhide OY).lt.2)
  replace KX := hide ((unhide KX).step bb)
  clear bb
  have bb := Law12.one_more v3 (.cells #[.int .i64 r1, .int .i64 r2] 25)
  replace B := hide ((unhide B).trans (bb.mono (unhide B).size))
  replace OY := hide ((unhide OY).below bb (unhide OY).lt.2)
  replace KX := hide ((unhide KX).step bb)
  clear bb
  have p0 := (unhide KX).c0
  have p1 := (unhide KX).c1
  go_wp2_with fail
  refine (IPack12.iReplyPack _ r1 r2).mono ?_
  rintro e v4 ⟨a4, c4, rfl, o4, bb⟩
  replace B := hide ((unhide B).trans (bb.mono (unhide B).size))
  replace OY := hide ((unhide OY).below bb (unhide OY).lt.2)
  replace KX := hide ((unhide KX).step bb)
  have O4 := hide o4
  clear bb o4 p0 p1
  have p0 := (unhide KX).c0
  have p1 := (unhide KX).c1
  cases r3 with
  | false =>
    obtain ⟨rfl, rfl⟩ := (unhide ZR) rfl
    go_wp2
    go_ret
    exact ⟨rfl, unhide B⟩
  | true =>
    obtain ⟨ok2, pk⟩ := (unhide PR) rfl
    have d2 : decide (RpOk r1 r2) = true := by simpa using ok2
    rw [pk] at O4 ⊢
    rw [d2]
    have sc1 := str_of (unhide O4)
    have sc2 := str_of (VOB.Ob.of (unhide OY))
    generalize strOfNums ys = st at *
    clear d2 ok2 pk
    go_wp2
    go_ret
    exact ⟨rfl, unhide B⟩

set_option maxRecDepth 100000 in
theorem lifted (os : Os) (started : os.Started) (H : Type) (enc : TypeId × Value → H) :
    ReturnsInHanded {} Try.checked os 3 .any (Rows.fnReplyBytesSpec.pre6 enc Try.prog Try.f3 Rows.fnReplyBytesRow.domain false) (Rows.fnReplyBytesSpec.post enc Try.prog Try.f3 false true false false) := by
  refine returnsInHanded_of_change (C := Try.checked) own started (by kernel_rfl) Try.func3
    (ChangeSpec.witness6 (enc := enc) (C := Try.checked) false ⟨#[], #[.slice none 0 0], []⟩ 8 (by kernel_rfl) (by kernel_rfl) (by kernel_rfl) (by kernel_rfl)) ?_
  intro W base args ds gs before hval0 hW hcnd _
  have hval : ∀ (j : Nat) t v, Try.f3.params[j]? = some t → args[j]? = some v → Value.okWide Try.prog W .any base t v := hval0
  have hW' := hW
  obtain ⟨p, q, hA0, hV, rfl, hfz, hnd⟩ := hW
  have hA : DataW.TrodAll enc Try.prog W 0 (fun _ => true) true Try.f3.params.toList args.toList ds p := hA0
  rw [Try.params3] at hA hval
  obtain ⟨v0, vs0, d0, ds0, p0, q0, hargs, rfl, rfl, h0, r0⟩ := trodAll_cons hA
  obtain ⟨rfl, rfl, rfl⟩ := trodAll_nil r0
  obtain rfl : args = #[v0] := by cases args; simp_all
  obtain ⟨rfl, rfl⟩ := trodVars_none hV
  obtain ⟨a0, len0, cap0, rfl⟩ := okWide_slice Try.underlying22 (hval 0 22 v0 rfl rfl)
  have k0 := h0
  have lt0 : ∀ x ∈ p0, x.block < W.heap.size := by obtain ⟨m, hm⟩ := k0; exact DataW.trod_lt m _ _ _ hm
  obtain ⟨z0, w0⟩ : ∃ zs, Ints.IsRow .u8 W a0 len0 cap0 zs := by
    obtain ⟨fuel, hf⟩ := h0
    rcases open_ints Try.underlying22 Try.underlying5 (by kernel_rfl) hf with ⟨hcs, _⟩ | ⟨x, l, c, zs, hcs, _, hl, hm, hz, _, hcell, hwz⟩
    · simp [Value.cells] at hcs
      obtain ⟨rfl, rfl, rfl⟩ := hcs
      exact ⟨[], .inl ⟨rfl, rfl, rfl, rfl⟩⟩
    · simp [Value.cells] at hcs
      obtain ⟨rfl, rfl, rfl⟩ := hcs
      exact ⟨zs, .inr ⟨_, rfl, hl, hm, by simpa using hz, hcell, hwz⟩⟩
  clear hA0 hval0
  refine (walk a0 len0 cap0 z0 W w0).mono fun e W' ⟨he, bel⟩ => ?_
  subst he
  exact ⟨_, rfl, _, _, _, [], _, [], hW', trodAll_mk1 (shut_bool Try.underlying4 _), (trodAll_cons_mk (Below.trod laidOut (by kernel_rfl) (of_decide_eq_true (by kernel_rfl)) k0 bel lt0) trodAll_mk0), rfl, bel.frame _, fun h => by cases h⟩

theorem over : Rows.fnReplyBytesRow.holds Try.pinned (OpenSpec.ofChange Rows.fnReplyBytesSpec) :=
  OpenClaim.holds_of_wide 3 Try.f3 rfl rfl rfl rfl rfl rfl rfl ⟨rfl, rfl, rfl, rfl, rfl⟩ rfl rfl rfl rfl rfl (by kernel_rfl) Try.func3 (by kernel_rfl)
    (of_decide_eq_true (by kernel_rfl)) (by unfold Func.isWrapper; first | (rw [if_pos (by decide +kernel)]; kernel_rfl) | (rw [if_neg (by decide +kernel)]; exact ⟨rfl, rfl⟩))
    (fun os started H enc _ => lifted os started H enc)

/-- The statement. -/
theorem proved : Rows.FnReplyBytesSaid := over
#print axioms proved
end Go.Proofs.Ytnkbkaeafkdpiaa.fnReplyBytes
