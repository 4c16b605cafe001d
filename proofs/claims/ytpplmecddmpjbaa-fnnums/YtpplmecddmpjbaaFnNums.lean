/- For every row of bytes the law of numbers returns true: the numbers that the bytes draw are read from their forms one behind the other, whatever stands behind them. No condition. -/
import Derived.Test.YtpplmecddmpjbaaRows
import Derived.Test.YtpplmecddmpjbaaPairs
import Derived.Test.YtpplmecddmpjbaaDraw
import Derived.Test.YtpplmecddmpjbaaSBytes
import Derived.Test.YtpplmecddmpjbaaByteH
import Derived.Test.YtpplmecddmpjbaaSPut11
import Derived.Test.YtpplmecddmpjbaaInts
import Derived.Test.YtpplmecddmpjbaaSPuts11
import Derived.Test.YtpplmecddmpjbaaDraw11
import Derived.Test.YtpplmecddmpjbaaVOI
import Derived.Test.YtpplmecddmpjbaaVOB
import Derived.Test.YtpplmecddmpjbaaLaw11
import Derived.Test.YtpplmecddmpjbaaCode11
import Derived.Test.YtpplmecddmpjbaaRT11
import Derived.Test.YtpplmecddmpjbaaIPuts11
import Derived.Test.YtpplmecddmpjbaaIRd11
import Derived.Test.YtpplmecddmpjbaaIGet11
import Derived.Test.YtpplmecddmpjbaaSGets11
import Derived.Test.YtpplmecddmpjbaaIGets11
import Derived.ShutString
import Derived.ChangeOld
import Derived.Below
namespace Go.Proofs.Ytpplmecddmpjbaa.fnNums
open Go.ChangeShapes Go.WideShapes Go.ChangeAt Go.RowKit
open Go.ChangeMaps (open_string shut_string)
set_option linter.unusedVariables false
set_option linter.unusedSimpArgs false

theorem own : ownKnob Try.prog.godebug = none := by kernel_rfl
theorem laidOut : laidOutB Try.prog = true := by kernel_rfl

open SBytes SPut11 SPuts11 Draw11 RT11
open Draw (CodeAt)

theorem get300 : getN [172, 2] 0 = (300, 2, true) := by
  simp [getN, getF, val]

theorem nums_all {xs : List Int} (h : ∀ i, i < xs.length → 0 ≤ xs.getD i 0) : numsB xs = xs.flatMap numB := if_pos h
theorem nums_none {xs : List Int} {k : Nat} (hk : k < xs.length) (h : xs.getD k 0 < 0) : numsB xs = [] := if_neg (fun a => by have := a k hk; omega)
theorem mem_getD {xs : List Int} {x : Int} (h : x ∈ xs) : ∃ i, i < xs.length ∧ xs.getD i 0 = x := by
  obtain ⟨i, hi, e⟩ := List.mem_iff_getElem.1 h
  exact ⟨i, hi, by simp [List.getD, hi, e]⟩
theorem numB_byte {x : Int} (h : x ≤ 9223372036854775807) : ∀ y ∈ numB x, 0 ≤ y ∧ y ≤ 255 := by
  intro y hy
  unfold numB at hy
  split at hy
  · simp at hy
  · exact numF_in 8 x.toNat (by omega) y hy
theorem getD_in {xs : List Int} (h : ∀ y ∈ xs, 0 ≤ y ∧ y ≤ 255) (i : Nat) (hi : i < xs.length) : 0 ≤ xs.getD i 0 ∧ xs.getD i 0 ≤ 255 := by
  have e : xs.getD i 0 = xs[i] := by simp [List.getD, hi]
  rw [e]
  exact h _ (List.getElem_mem _)

theorem gets_back (xs : List Int) (y : Int) (h9 : xs.length ≤ 9) (h0 : ∀ i, i < xs.length → 0 ≤ xs.getD i 0) (h1 : ∀ x ∈ xs, x ≤ 9223372036854775807) :
    getsN (xs.flatMap numB ++ [y]) 0 xs.length = (xs, ((xs.flatMap numB).length : Int), true) := by
  have g := gets_nums xs [] [y] [] (fun x hx => ⟨by obtain ⟨i, hi, e⟩ := mem_getD hx; rw [← e]; exact h0 i hi, h1 x hx⟩) (xs.flatMap numB ++ [y]) rfl
  simp only [List.length_nil, List.nil_append, Nat.zero_add] at g
  unfold getsN
  rw [if_pos ⟨⟨by omega, by omega⟩, by omega, by omega⟩, Int.toNat_natCast]
  exact g

theorem flat_pos {xs : List Int} (h : xs.length ≠ 0) (h0 : ∀ i, i < xs.length → 0 ≤ xs.getD i 0) : (xs.flatMap numB).length ≠ 0 := by
  cases xs with
  | nil => simp at h
  | cons x r =>
    have a := h0 0 (by simp)
    have e : numB x = numF x.toNat := numB_pos (by simpa [List.getD] using a)
    have b : (numF x.toNat).length ≠ 0 := fun q => numF_ne x.toNat (List.eq_nil_of_length_eq_zero q)
    rw [List.flatMap_cons, List.length_append, e]
    omega

theorem own_capB {w : World} {base g n cap : Nat} {xs : List Int} (h : ByteH.Own w base g n cap xs) : n ≤ cap := by
  rcases h.2 with ⟨h1, _⟩ | ⟨g', c, cur, h1, _, _, h4, _⟩
  · simp at h1
  · obtain ⟨_, e⟩ : g = g' ∧ cap = c := by simpa using h1
    subst e
    exact h4


set_option maxRecDepth 100000 in
set_option maxHeartbeats 8000000 in
theorem walk (a0 : Option Addr) (len0 cap0 : Nat) (z0 : List Int) (w : World) (w0 : Ints.IsRow .u8 w a0 len0 cap0 z0) :
    Calls Try.prog 3 #[.slice a0 len0 cap0] w fun e w' => e = .returned (.bool true) ∧ Below w.heap.size w w' := by
  have hc := Code11.codeAt w0
  have hm := (Law11.row_bytes w0).2.2.2
  clear w0
  by_cases tl : (len0 : Int) ≤ 1048576
  case neg =>
    have HC := hide hc
    clear hc
    go_enter Try.func3, Try.ntmps3
    go_wp2
    go_ret
    exact ⟨rfl, Below.refl _ _⟩
  have HC := hide hc
  have TL : len0 ≤ 1048576 := by omega
  clear hc hm
  go_enter Try.func3, Try.ntmps3
  go_wp2_with (first | (go_at_call 5; go_in) | fail)
  refine (drawPuts _ a0 len0 cap0 TL (unhide HC)).mono ?_
  rintro e u0 ⟨xs, gl, cl, rfl, ol, l9, hx, b0⟩
  have OL := hide ol
  have HX := hide hx
  have B := hide b0
  have IX := hide (show ∀ i, i < xs.length → xs.getD i 0 ≤ 9223372036854775807 from fun i hi => by
    have e : xs.getD i 0 = xs[i] := by simp [List.getD, hi]
    rw [e]
    exact hx _ (List.getElem_mem _))
  clear ol hx b0
  go_wp2_with fail
  refine (IPuts11.iPutNums _ gl cl xs (by omega) (unhide OL).lt.2 (unhide OL).at (unhide IX)).mono ?_
  rintro e u1 ⟨ab, cb, rfl, ob, bb⟩
  have LB := hide (And.intro (unhide B).size bb.size)
  have OLT := hide (unhide OL).lt.2
  replace B := hide ((unhide B).trans (bb.mono (unhide B).size))
  replace OL := hide ((unhide OL).below bb (unhide OL).lt.2)
  have OB := hide ob
  clear bb ob
  go_wp2
  go_loopw [5] (fun i wr => ∃ k : Nat, k ≤ xs.length ∧ i = .int .i64 k ∧ Hid (∀ i, i < k → 0 ≤ xs.getD i 0) ∧ wr = u1) (fun i _ => xs.length - (intOf i).toNat)
  case atStart => exact ⟨0, by omega, rfl, hide (fun i hi => absurd hi (by omega)), rfl⟩
  case round =>
    obtain ⟨k, hk, rfl, HP, rfl⟩ := hrel
    by_cases t : k < xs.length
    · have d := (unhide OL).at k t
      have kx : (k : Int) < xs.length := by omega
      by_cases x0 : xs.getD k 0 < 0
      · have e := nums_none t x0
        rw [e]
        generalize xs.getD k 0 = x at *
        clear e
        go_wp2
        go_ret
        exact ⟨rfl, unhide B⟩
      · have NP := hide (show ∀ i, i < k + 1 → 0 ≤ xs.getD i 0 from fun i hi => by
          by_cases e : i = k
          · subst e; omega
          · exact (unhide HP) i (by omega))
        generalize xs.getD k 0 = x at *
        go_wp2
        go_roundw
        case rel => exact ⟨k + 1, by omega, by go_num, NP, trivial⟩
        case measure => simp [intOf]; omega
    · have e : k = xs.length := by omega
      subst e
      have NA := hide (nums_all (unhide HP))
      by_cases z : xs.length = 0
      · have e := List.eq_nil_of_length_eq_zero z
        subst e
        have e0 : (numsB ([] : List Int)) = [] := by rw [unhide NA]; rfl
        rw [e0]
        have AT := hide (show AtB (wr.alloc (.cells #[.int .u8 172, .int .u8 2] 5)) wr.heap.size [172, 2] from fun i hi => by
          have : i = 0 ∨ i = 1 := by simp at hi; omega
          rcases this with rfl | rfl
          · exact ⟨by simp, by simp, by simp⟩
          · exact ⟨by simp, by simp, by simp⟩)
        clear e0 z t
        go_wp2_with fail
        refine (IGet11.iGetNum _ wr.heap.size 2 [172, 2] 0 (by simp) (by simp) (by omega) (by simp) (unhide AT)).mono ?_
        rintro e u2 ⟨rfl, bb⟩
        rw [get300]
        replace B := hide ((unhide B).trans ((one_more _ _).trans (bb.mono (by simp)) |>.mono (unhide B).size))
        go_wp2
        go_ret
        exact ⟨rfl, unhide B⟩
      · have GB := hide (fun y => gets_back xs y l9 (unhide HP) (unhide HX))
        have FP := hide (flat_pos z (unhide HP))
        have FL := hide (show (xs.flatMap numB).length ≤ 81 from by
          have := flat_len xs (unhide IX) xs.length (Nat.le_refl _)
          rw [List.take_length] at this
          omega)
        have BY := hide (show ∀ y ∈ xs.flatMap numB, 0 ≤ y ∧ y ≤ 255 from fun y hy => by
          obtain ⟨x, hx, hy⟩ := List.mem_flatMap.1 hy
          exact numB_byte ((unhide HX) x hx) y hy)
        have IP := hide (fun u hg hr => IPuts11.iPutNums u gl cl xs (by omega) hg hr (unhide IX))
        rw [unhide NA] at OB IP ⊢
        generalize xs.flatMap numB = ps at *
        have zz : ¬ (xs.length : Int) = 0 := by omega
        have z2 : ((xs.length : Int) == 0) = false := by simpa using z
        clear NA HP HX t
        obtain ⟨gb, rfl, ow⟩ : ∃ g, ab = some ⟨g, 0, none⟩ ∧ ByteH.Own wr u0.heap.size g ps.length cb ps := by
          rcases (unhide OB).either with ⟨_, h, _⟩ | h
          · exact absurd h (unhide FP)
          · exact h
        have OW := hide ow
        have og := ow.lt
        clear ow OB zz
        go_wp2_with fail
        refine (Code11.atC _ a0 len0 cap0 1 TL (by omega) ((unhide HC).below (unhide B))).mono ?_
        rintro e u2 ⟨y, y0, y1, rfl, rfl⟩
        have e8 : IntKind.u8.wrap y = y := by rw [IntKind.wrap_u8]; omega
        have lb := unhide LB
        have fl := unhide FL
        go_wp2_with (first | (at_builtin; refine wp_catB _ rfl _ _ rfl u0.heap.size gb ps.length cb 1 ps [y] u2.heap.size 0 1 rfl rfl (own_alloc (unhide OW) _) rfl (lit_one _ _) (by omega) (by simp; omega) ?_) | go_in)
        intro g3 c3 u3 o3 gr3 loc3
        have O3 := hide o3
        have gne : gl ≠ gb := by have a := (unhide LB); have b := (unhide OLT); omega
        replace OL := hide (((unhide OL).below (one_more u2 (.cells #[.int .u8 y] 5)) (unhide OL).lt.2).kept gr3 (fun e => gne (by injection e)))
        replace B := hide (((unhide B).alloc (unhide B).size (.cells #[.int .u8 y] 5)).grown gr3 (by have := (unhide B).size; simp; omega) (fun j hj => by cases hj; omega))
        have og3 := o3.lt
        have AT := hide (show AtB u3 g3 (ps ++ [y]) from fun i hi => ⟨o3.at i hi, getD_in (fun z hz => by
          rcases List.mem_append.1 hz with h | h
          · exact (unhide BY) z h
          · simp at h; subst h; exact ⟨y0, y1⟩) i hi⟩)
        have LP : (ps ++ [y]).length = ps.length + 1 := by simp
        have GN := hide (IGets11.iGetNums u3 g3 c3 (ps ++ [y]) 0 xs.length (by rw [LP]; omega) (by rw [LP]; exact own_capB o3) og3.2 (unhide AT))
        rw [LP, (unhide GB) y] at GN
        clear o3 gr3 loc3 LP e8
        go_wp2_with fail
        refine (unhide GN).mono ?_
        rintro e u4 ⟨a4, c4, rfl, on, bb⟩
        replace B := hide ((unhide B).trans (bb.mono (unhide B).size))
        replace OL := hide ((unhide OL).below bb (unhide OL).lt.2)
        obtain ⟨g4, rfl, ow⟩ : ∃ g, a4 = some ⟨g, 0, none⟩ ∧ Ints.Own u4 u3.heap.size g xs.length c4 xs := by
          rcases on.either with ⟨_, h, _⟩ | h
          · exact absurd h z
          · exact h
        have ON := hide ow
        clear bb on ow GN AT
        go_wp2_with fail
        refine (Code11.same _ _ _ xs.length _ _ xs rfl (by omega) (unhide ON).at (unhide OL).at).mono ?_
        rintro e u5 ⟨rfl, bb⟩
        replace B := hide ((unhide B).trans (bb.mono (unhide B).size))
        replace OL := hide ((unhide OL).below bb (unhide OL).lt.2)
        clear bb ON
        go_wp2_with fail
        refine ((unhide IP) u5 (unhide OL).lt.2 (unhide OL).at).mono ?_
        rintro e u6 ⟨a6, c6, rfl, _, bb⟩
        replace B := hide ((unhide B).trans (bb.mono (unhide B).size))
        clear bb
        have q : ((ps.length : Int) == (ps.length : Int)) = true := by simp
        go_wp2
        go_ret
        exact ⟨rfl, unhide B⟩

set_option maxRecDepth 100000 in
theorem lifted (os : Os) (started : os.Started) (H : Type) (enc : TypeId × Value → H) :
    ReturnsInHanded {} Try.checked os 3 .any (Rows.fnNumsSpec.pre6 enc Try.prog Try.f3 Rows.fnNumsRow.domain false) (Rows.fnNumsSpec.post enc Try.prog Try.f3 false true false false) := by
  refine returnsInHanded_of_change (C := Try.checked) own started (by kernel_rfl) Try.func3
    (ChangeSpec.witness6 (enc := enc) (C := Try.checked) false ⟨#[], #[.slice none 0 0], []⟩ 8 (by kernel_rfl) (by kernel_rfl) (by kernel_rfl) (by kernel_rfl)) ?_
  intro W base args ds gs before hval0 hW hcnd _
  have hval : ∀ (j : Nat) t v, Try.f3.params[j]? = some t → args[j]? = some v → Value.okWide Try.prog W .any base t v := hval0
  have hW' := hW
  obtain ⟨p, q, hA0, hV, rfl, hfz, hnd⟩ := hW
  have hA : DataW.TrodAll enc Try.prog W 0 (fun _ => true) true Try.f3.params.toList args.toList ds p := hA0
  rw [Try.params3] at hA hval
  obtain ⟨v0, vs0, d0, ds0, p0, q0, hargs, rfl, rfl, h0, r0⟩ := trodAll_cons hA
  obtain ⟨rfl, rfl, rfl⟩ := trodAll_nil r0
  obtain rfl : args = #[v0] := by cases args; simp_all
  obtain ⟨rfl, rfl⟩ := trodVars_none hV
  obtain ⟨a0, len0, cap0, rfl⟩ := okWide_slice Try.underlying22 (hval 0 22 v0 rfl rfl)
  have k0 := h0
  have lt0 : ∀ x ∈ p0, x.block < W.heap.size := by obtain ⟨m, hm⟩ := k0; exact DataW.trod_lt m _ _ _ hm
  obtain ⟨z0, w0⟩ : ∃ zs, Ints.IsRow .u8 W a0 len0 cap0 zs := by
    obtain ⟨fuel, hf⟩ := h0
    rcases open_ints Try.underlying22 Try.underlying5 (by kernel_rfl) hf with ⟨hcs, _⟩ | ⟨x, l, c, zs, hcs, _, hl, hm, hz, _, hcell, hwz⟩
    · simp [Value.cells] at hcs
      obtain ⟨rfl, rfl, rfl⟩ := hcs
      exact ⟨[], .inl ⟨rfl, rfl, rfl, rfl⟩⟩
    · simp [Value.cells] at hcs
      obtain ⟨rfl, rfl, rfl⟩ := hcs
      exact ⟨zs, .inr ⟨_, rfl, hl, hm, by simpa using hz, hcell, hwz⟩⟩
  clear hA0 hval0
  refine (walk a0 len0 cap0 z0 W w0).mono fun e W' ⟨he, bel⟩ => ?_
  subst he
  exact ⟨_, rfl, _, _, _, [], _, [], hW', trodAll_mk1 (shut_bool Try.underlying4 _), (trodAll_cons_mk (Below.trod laidOut (by kernel_rfl) (of_decide_eq_true (by kernel_rfl)) k0 bel lt0) trodAll_mk0), rfl, bel.frame _, fun h => by cases h⟩

theorem over : Rows.fnNumsRow.holds Try.pinned (OpenSpec.ofChange Rows.fnNumsSpec) :=
  OpenClaim.holds_of_wide 3 Try.f3 rfl rfl rfl rfl rfl rfl rfl ⟨rfl, rfl, rfl, rfl, rfl⟩ rfl rfl rfl rfl rfl (by kernel_rfl) Try.func3 (by kernel_rfl)
    (of_decide_eq_true (by kernel_rfl)) (by unfold Func.isWrapper; first | (rw [if_pos (by decide +kernel)]; kernel_rfl) | (rw [if_neg (by decide +kernel)]; exact ⟨rfl, rfl⟩))
    (fun os started H enc _ => lifted os started H enc)

/-- The statement. -/
theorem proved : Rows.FnNumsSaid := over
#print axioms proved
end Go.Proofs.Ytpplmecddmpjbaa.fnNums
