/- For every row of bytes the law of seals returns true: what is sealed of the bytes that are drawn is read as itself, also behind other bytes; with one of its bytes behind the length turned into another one it is refused. No condition. -/
import Derived.Test.YtpplmecddmpjbaaRows
import Derived.Test.YtpplmecddmpjbaaPairs
import Derived.Test.YtpplmecddmpjbaaDraw
import Derived.Test.YtpplmecddmpjbaaSBytes
import Derived.Test.YtpplmecddmpjbaaByteH
import Derived.Test.YtpplmecddmpjbaaSPut11
import Derived.Test.YtpplmecddmpjbaaInts
import Derived.Test.YtpplmecddmpjbaaSPuts11
import Derived.Test.YtpplmecddmpjbaaDraw11
import Derived.Test.YtpplmecddmpjbaaVOI
import Derived.Test.YtpplmecddmpjbaaVOB
import Derived.Test.YtpplmecddmpjbaaLaw11
import Derived.Test.YtpplmecddmpjbaaCode11
import Derived.Test.YtpplmecddmpjbaaRT11
import Derived.Test.YtpplmecddmpjbaaSGets11
import Derived.Test.YtpplmecddmpjbaaSSeal11
import Derived.Test.YtpplmecddmpjbaaSUnseal11
import Derived.Test.YtpplmecddmpjbaaRTS11
import Derived.Test.YtpplmecddmpjbaaDrawS11
import Derived.Test.YtpplmecddmpjbaaIPuts11
import Derived.Test.YtpplmecddmpjbaaIPut11
import Derived.Test.YtpplmecddmpjbaaICheck11
import Derived.Test.YtpplmecddmpjbaaISum11
import Derived.Test.YtpplmecddmpjbaaConB11
import Derived.Test.YtpplmecddmpjbaaISeal11
import Derived.Test.YtpplmecddmpjbaaIRd11
import Derived.Test.YtpplmecddmpjbaaEqS11
import Derived.Test.YtpplmecddmpjbaaStepB11
import Derived.Test.YtpplmecddmpjbaaIUnseal11
import Derived.Laws.BytesArg
import Derived.ShutString
import Derived.ChangeOld
import Derived.Below
namespace Go.Proofs.Ytpplmecddmpjbaa.fnSeal
open Go.ChangeShapes Go.WideShapes Go.ChangeAt Go.RowKit
open Go.ChangeMaps (open_string shut_string)
set_option linter.unusedVariables false
set_option linter.unusedSimpArgs false

theorem own : ownKnob Try.prog.godebug = none := by kernel_rfl
theorem laidOut : laidOutB Try.prog = true := by kernel_rfl

open SBytes SPut11 SPuts11 Draw11 RT11 RTS11 SSeal11 SUnseal11 DrawS11
open Draw (CodeAt)

theorem own_cap {w : World} {base g n cap : Nat} {xs : List Int} (h : ByteH.Own w base g n cap xs) : n ≤ cap := by
  rcases h.2 with ⟨h1, _⟩ | ⟨g', c, cur, h1, _, _, h2, _⟩
  · simp at h1
  · have : g = g' ∧ cap = c := by simpa using h1
    rw [this.2]
    exact h2

theorem in_get {xs : List Int} (h : ∀ y ∈ xs, 0 ≤ y ∧ y ≤ 255) (i : Nat) (hi : i < xs.length) : 0 ≤ xs.getD i 0 ∧ xs.getD i 0 ≤ 255 := by
  have e : xs.getD i 0 = xs[i] := by simp [List.getD, hi]
  rw [e]
  exact h _ (List.getElem_mem _)

theorem in_seal {xs : List Int} (h : ∀ y ∈ xs, 0 ≤ y ∧ y ≤ 255) : ∀ y ∈ sealB xs, 0 ≤ y ∧ y ≤ 255 := by
  intro y hy
  unfold sealB at hy
  split at hy
  · rcases List.mem_append.1 hy with hy | hy
    · rcases List.mem_append.1 hy with hy | hy
      · rw [numB_pos (by omega)] at hy
        exact numF_in 8 _ (by omega) y hy
      · exact h y hy
    · simp [four] at hy
      omega
  · simp at hy

theorem seal_len {xs : List Int} (h : xs.length ≤ 9000) : (sealB xs).length = (numB xs.length).length + xs.length + 4 := by
  unfold sealB
  rw [if_pos h]
  simp [four]
  omega

theorem str_of {w : World} {base n cap : Nat} {a : Option Addr} {xs : List Int} (h : VOB.Ob w base a n cap xs) : (convert 22 9 (.slice a n cap)).run Try.prog w = .ok (.string (strOfNums xs)) w := by
  have hl := h.len
  rcases h.either with ⟨rfl, rfl, rfl⟩ | ⟨g, rfl, o⟩
  · exact run_convert_bytes_nil w _ _ Try.underlying22 Try.underlying5 0 cap _ Try.underlying9
  · exact run_convert_bytes_arg w _ _ Try.underlying22 Try.underlying5 g 0 n cap xs hl (fun i hi => by rw [Nat.zero_add]; exact o.at i (by omega)) _ Try.underlying9

theorem xor_turn (v k : Int) (hv : 0 ≤ v ∧ v ≤ 255) (hk : 1 ≤ k ∧ k ≤ 255) : (0 ≤ bits .xor .u8 v k ∧ bits .xor .u8 v k ≤ 255) ∧ bits .xor .u8 v k ≠ v := by
  have e : bits .xor .u8 v k = ((BitVec.ofInt 8 v ^^^ BitVec.ofInt 8 k).toNat : Int) := by
    show IntKind.u8.wrap ((BitVec.ofInt 8 v ^^^ BitVec.ofInt 8 k).toNat : Nat) = _
    have := (BitVec.ofInt 8 v ^^^ BitVec.ofInt 8 k).isLt
    rw [IntKind.wrap_u8]
    omega
  have lt := (BitVec.ofInt 8 v ^^^ BitVec.ofInt 8 k).isLt
  refine ⟨⟨by rw [e]; omega, by rw [e]; omega⟩, fun h => ?_⟩
  rw [e] at h
  have h1 : (BitVec.ofInt 8 v).toNat = v.toNat := by rw [BitVec.toNat_ofInt]; omega
  have h2 : (BitVec.ofInt 8 k).toNat = k.toNat := by rw [BitVec.toNat_ofInt]; omega
  have h3 : BitVec.ofInt 8 v ^^^ BitVec.ofInt 8 k = BitVec.ofInt 8 v := BitVec.eq_of_toNat_eq (by omega)
  have h4 : BitVec.ofInt 8 k = 0#8 := by
    have := congrArg (fun z => BitVec.ofInt 8 v ^^^ z) h3
    simpa [← BitVec.xor_assoc] using this
  have h5 : (BitVec.ofInt 8 k).toNat = 0 := by rw [h4]; rfl
  omega

abbrev oS0 : Oper := { dst := some 81, op := Go.Op.move (Go.Operand.tmp 4), type := 22, pos := "laws.go:847", after := #[], guard := none }
abbrev oS1 : Oper := { dst := some 82, op := Go.Op.move (Go.Operand.tmp 10), type := 3, pos := "laws.go:847", after := #[], guard := none }
abbrev oS2 : Oper := { dst := some 83, op := Go.Op.move (Go.Operand.tmp 4), type := 22, pos := "laws.go:847", after := #[], guard := none }
abbrev oS3 : Oper := { dst := some 84, op := Go.Op.move (Go.Operand.tmp 10), type := 3, pos := "laws.go:847", after := #[], guard := none }
abbrev oS4 : Oper := { dst := some 85, op := Go.Op.indexAddr 22 (Go.Operand.tmp 83) (Go.Operand.tmp 84), type := 0, pos := "laws.go:847", after := #[{ on := 2, ground := Go.Ground.data }, { on := 3, ground := Go.Ground.data }], guard := none }
abbrev oS5 : Oper := { dst := some 86, op := Go.Op.load 5 (Go.Operand.tmp 85), type := 5, pos := "laws.go:847", after := #[{ on := 4, ground := Go.Ground.data }], guard := none }
abbrev oS6 : Oper := { dst := some 87, op := Go.Op.move (Go.Operand.tmp 0), type := 22, pos := "laws.go:847", after := #[], guard := none }
abbrev oS7 : Oper := { dst := some 88, op := Go.Op.call { callee := Go.Callee.value (Go.Operand.func 10), args := #[Go.Operand.tmp 87, Go.Operand.const (Go.Value.int Go.IntKind.i64 2)], argTypes := #[22, 3] }, type := 3, pos := "laws.go:847", after := #[{ on := 6, ground := Go.Ground.data }], guard := none }
abbrev oS8 : Oper := { dst := some 89, op := Go.Op.binOp Go.BinOp.rem 3 (Go.Operand.tmp 88) (Go.Operand.const (Go.Value.int Go.IntKind.i64 255)) 3, type := 3, pos := "laws.go:847", after := #[{ on := 7, ground := Go.Ground.data }], guard := none }
abbrev oS9 : Oper := { dst := some 90, op := Go.Op.binOp Go.BinOp.add 3 (Go.Operand.const (Go.Value.int Go.IntKind.i64 1)) (Go.Operand.tmp 89) 3, type := 3, pos := "laws.go:847", after := #[{ on := 8, ground := Go.Ground.data }], guard := none }
abbrev oS10 : Oper := { dst := some 91, op := Go.Op.convert 3 5 (Go.Operand.tmp 90), type := 5, pos := "laws.go:847", after := #[{ on := 9, ground := Go.Ground.data }], guard := none }
abbrev oS11 : Oper := { dst := some 92, op := Go.Op.binOp Go.BinOp.xor 5 (Go.Operand.tmp 86) (Go.Operand.tmp 91) 5, type := 5, pos := "laws.go:847", after := #[{ on := 5, ground := Go.Ground.data }, { on := 10, ground := Go.Ground.data }], guard := none }
abbrev oS12 : Oper := { dst := some 93, op := Go.Op.indexAddr 22 (Go.Operand.tmp 81) (Go.Operand.tmp 82), type := 0, pos := "laws.go:847", after := #[{ on := 0, ground := Go.Ground.data }, { on := 1, ground := Go.Ground.data }, { on := 0, ground := Go.Ground.phase }, { on := 1, ground := Go.Ground.phase }, { on := 2, ground := Go.Ground.phase }, { on := 3, ground := Go.Ground.phase }, { on := 4, ground := Go.Ground.phase }, { on := 5, ground := Go.Ground.phase }, { on := 6, ground := Go.Ground.phase }, { on := 7, ground := Go.Ground.phase }, { on := 8, ground := Go.Ground.phase }, { on := 9, ground := Go.Ground.phase }, { on := 10, ground := Go.Ground.phase }, { on := 11, ground := Go.Ground.phase }], guard := none }
abbrev oS13 : Oper := { dst := none, op := Go.Op.store 5 (Go.Operand.tmp 93) (Go.Operand.tmp 92), type := 0, pos := "laws.go:847", after := #[{ on := 12, ground := Go.Ground.data }, { on := 11, ground := Go.Ground.data }, { on := 7, ground := Go.Ground.chain }, { on := 0, ground := Go.Ground.phase }, { on := 1, ground := Go.Ground.phase }, { on := 2, ground := Go.Ground.phase }, { on := 3, ground := Go.Ground.phase }, { on := 4, ground := Go.Ground.phase }, { on := 5, ground := Go.Ground.phase }, { on := 6, ground := Go.Ground.phase }, { on := 7, ground := Go.Ground.phase }, { on := 8, ground := Go.Ground.phase }, { on := 9, ground := Go.Ground.phase }, { on := 10, ground := Go.Ground.phase }, { on := 11, ground := Go.Ground.phase }], guard := none }


set_option maxRecDepth 100000 in
set_option maxHeartbeats 8000000 in
theorem walk (a0 : Option Addr) (len0 cap0 : Nat) (z0 : List Int) (w : World) (w0 : Ints.IsRow .u8 w a0 len0 cap0 z0) :
    Calls Try.prog 4 #[.slice a0 len0 cap0] w fun e w' => e = .returned (.bool true) ∧ Below w.heap.size w w' := by
  have hc := Code11.codeAt w0
  have hm := (Law11.row_bytes w0).2.2.2
  clear w0
  by_cases tl : (len0 : Int) ≤ 1048576
  case neg =>
    have HC := hide hc
    clear hc
    go_enter Try.func4, Try.ntmps4
    go_wp2
    go_ret
    exact ⟨rfl, Below.refl _ _⟩
  have HC := hide hc
  have TL : len0 ≤ 1048576 := by omega
  clear hc hm
  go_enter Try.func4, Try.ntmps4
  go_wp2_with (first | (go_at_call 5; go_in) | fail)
  refine (drawSeal _ a0 len0 cap0 TL (unhide HC)).mono ?_
  rintro e u0 ⟨xs, gl, cl, rfl, ol, l9, hx, b0⟩
  have OL := hide ol
  have HX := hide hx
  have B := hide b0
  clear ol hx b0
  go_wp2_with fail
  refine (ISeal11.iSeal _ gl cl xs (by omega) (unhide OL).lt.2 (fun i hi => ⟨(unhide OL).at i hi, in_get (unhide HX) i hi⟩)).mono ?_
  rintro e u1 ⟨af, cf, rfl, of, bb⟩
  have LB := hide (And.intro (unhide B).size bb.size)
  have OLT := hide (unhide OL).lt.2
  replace B := hide ((unhide B).trans (bb.mono (unhide B).size))
  replace OL := hide ((unhide OL).below bb (unhide OL).lt.2)
  have OF := hide of
  clear bb of
  by_cases t : xs.length ≤ 9000
  case neg =>
    have e : sealB xs = [] := if_neg t
    have d : decide (xs.length ≤ 9000) = false := by simpa using t
    have t1 : (9000 : Int) < xs.length := by omega
    rw [e, d]
    clear e d t
    go_wp2
    go_ret
    exact ⟨rfl, unhide B⟩
  have d : decide (xs.length ≤ 9000) = true := by simpa using t
  rw [d]
  have t1 : ¬ (9000 : Int) < xs.length := by omega
  have SL := hide (seal_len t)
  have US := hide (unseal_seal [1, 2] xs [] t)
  have UT := hide (fun i y => unseal_turned xs t (in_get (unhide HX)) i y)
  have SI := hide (in_seal (unhide HX))
  have NB := hide (numB_nine (x := (xs.length : Int)) (by omega))
  have NE := hide (numB_pos (x := (xs.length : Int)) (by omega))
  rw [Int.toNat_natCast] at NE
  rw [List.append_nil] at US
  generalize sealB xs = fs at *
  obtain ⟨gf, rfl, ow⟩ : ∃ g, af = some ⟨g, 0, none⟩ ∧ ByteH.Own u1 u0.heap.size g fs.length cf fs := by
    rcases (unhide OF).either with ⟨_, h, _⟩ | h
    · have := unhide SL; omega
    · exact h
  have OW := hide ow
  have og := ow.lt
  clear ow OF d
  have LT := hide (show ByteH.Own (u1.alloc (.cells #[.int .u8 1, .int .u8 2] 5)) u1.heap.size u1.heap.size 2 2 [1, 2] from World.ownsRow_lit u1 #[.int .u8 1, .int .u8 2] 2 (Nat.le_refl _) (by decide) rfl)
  have fl : fs.length ≤ 9013 := by have a := unhide SL; have b := unhide NB; omega
  go_wp2_with (first | (at_builtin; refine wp_catB _ rfl _ _ rfl u1.heap.size u1.heap.size 2 2 fs.length [1, 2] fs gf 0 cf rfl rfl (unhide LT) rfl (AtO.of (own_alloc (unhide OW) _).at) (by omega) (by simp) ?_) | go_in)
  intro g2 c2 u2 o2 gr2 loc2
  have O2 := hide o2
  have og2 := o2.lt
  have cap2 := own_cap o2
  replace OL := hide (((unhide OL).below (one_more u1 (.cells #[.int .u8 1, .int .u8 2] 5)) (unhide OL).lt.2).kept gr2 (fun e => by have := (unhide OL).lt.2; injection e; omega))
  replace OW := hide ((own_alloc (unhide OW) (.cells #[.int .u8 1, .int .u8 2] 5)).kept gr2 (fun e => by injection e; omega))
  replace B := hide (((unhide B).alloc (unhide B).size (.cells #[.int .u8 1, .int .u8 2] 5)).grown gr2 (by have := (unhide B).size; simp; omega) (fun j hj => by cases hj; exact (unhide B).size))
  have AT := hide (show AtB u2 g2 ([1, 2] ++ fs) from fun i hi => ⟨o2.at i hi, in_get (fun y hy => by
    rcases List.mem_append.1 hy with h | h
    · simp at h; omega
    · exact (unhide SI) y h) i hi⟩)
  have LP : ([1, 2] ++ fs).length = 2 + fs.length := by simp; omega
  have UN := hide (IUnseal11.iUnseal u2 g2 c2 ([1, 2] ++ fs) 2 (by rw [LP]; omega) (by rw [LP]; exact cap2) (by omega) og2.2 (unhide AT))
  have US' : unsealN ([1, 2] ++ fs) 2 = (xs, ((2 + fs.length : Nat) : Int), 0) := unhide US
  rw [LP, US'] at UN
  clear o2 gr2 loc2 LP US US' LT
  go_wp2_with fail
  refine (unhide UN).mono ?_
  rintro e u3 ⟨a3, c3, rfl, o3, bb⟩
  replace B := hide ((unhide B).trans (bb.mono (unhide B).size))
  replace OL := hide ((unhide OL).below bb (unhide OL).lt.2)
  replace OW := hide ((unhide OW).below bb (unhide OW).lt.2)
  have O3 := hide o3
  clear bb o3 UN AT O2
  go_wp2_with fail
  refine (IPut11.iPutNum u3 xs.length (by omega)).mono ?_
  rintro e u4 ⟨a4, c4, rfl, _, bb⟩
  replace B := hide ((unhide B).trans (bb.mono (unhide B).size))
  replace OL := hide ((unhide OL).below bb (unhide OL).lt.2)
  replace OW := hide ((unhide OW).below bb (unhide OW).lt.2)
  replace O3 := hide ((unhide O3).step bb)
  clear bb
  have hl := VOB.Ob.len (unhide O3)
  have sc1 := str_of (unhide O3)
  have sc2 := str_of (VOB.Ob.of (unhide OL))
  generalize hn : (numB (xs.length : Int)).length = nn at *
  have HN := hide hn
  clear hn hl
  generalize strOfNums xs = st at *
  have w1 : wrap64 ((fs.length : Int) + 2) = fs.length + 2 := by rw [wrap64]; omega
  have s1 : ((2 + (fs.length : Int)) != (fs.length : Int) + 2) = false := by simp; omega
  have s2 : ¬ (fs.length : Int) ≤ nn := by have := unhide SL; omega
  go_wp2_with fail
  refine (Code11.atC _ a0 len0 cap0 1 TL (by omega) ((unhide HC).below (unhide B))).mono ?_
  rintro e u5 ⟨y, y0, y1, rfl, rfl⟩
  clear sc1 sc2 w1 s1
  have p1 : wrap64 (y * 13) = y * 13 := by rw [wrap64]; omega
  have p2 : wrap64 ((fs.length : Int) - nn) = fs.length - nn := by rw [wrap64]; omega
  obtain ⟨D, hD⟩ : ∃ D : Int, Hid ((fs.length : Int) - nn = D) := ⟨_, rfl⟩
  rw [unhide hD] at p2
  have D1 : Hid (1 ≤ D ∧ D ≤ 9013) := hide (by have := unhide hD; omega)
  have ND : ¬ D = 0 := by have := unhide D1; omega
  obtain ⟨Y, hY⟩ : ∃ Y : Int, Hid (y * 13 = Y) := ⟨_, rfl⟩
  rw [unhide hY] at p1
  have Y1 : Hid (0 ≤ Y ∧ Y ≤ 9999) := hide (by have := unhide hY; omega)
  clear y0 y1 s2
  go_wp2_with fail
  clear p1 p2 ND
  obtain ⟨k, hk⟩ : ∃ k : Nat, Hid (wrap64 ((nn : Int) + (wrap64 (y * 13)).tmod ((fs.length : Int) - nn)) = k ∧ nn ≤ k ∧ k < fs.length) := by
    obtain ⟨a0, a9⟩ := unhide Y1
    have d0 := unhide D1
    have ey := unhide hY
    have ed := unhide hD
    have e1 : wrap64 (y * 13) = Y := by rw [ey, wrap64]; omega
    have e2 : Y.tmod D = Y % D := Int.tmod_eq_emod_of_nonneg a0
    have a := Int.emod_nonneg Y (show D ≠ 0 by omega)
    have b := Int.emod_lt_of_pos Y (show 0 < D by omega)
    refine ⟨(nn + Y % D).toNat, hide ?_⟩
    rw [e1, ed, e2]
    refine ⟨?_, by omega, by omega⟩
    rw [wrap64]
    omega
  rw [(unhide hk).1]
  clear hY hD D1 Y1
  have kl := (unhide hk).2.2
  have ki : (k : Int) < fs.length := by omega
  have v0 := (unhide OW).at k kl
  have vf := (unhide OW).free k
  have VI := hide (in_get (unhide SI) k kl)
  obtain ⟨v, HV⟩ : ∃ v, Hid (fs.getD k 0 = v) := ⟨_, rfl⟩
  rw [unhide HV] at v0 VI
  refine wp_region_held_drew (S := (fun _ => True)) (by kernel_rfl) trivial (fun hHeld => ?_)
  refine wpAnyH_take (i := 0) (oi := oS0) (v := .slice (some ⟨gf, 0, none⟩) fs.length cf) rfl (by kernel_rfl) (by kernel_rfl) (by kernel_rfl) (fun _ _ _ h => h) (Or.inl ⟨by rfl, fun w hSw => ?_⟩) hHeld ?_
  · (try dsimp only at hSw)
    unfold oS0
    go_simp
  try simp only [oS0, Act.put, List.setIfInBounds_toArray, List.set_cons_zero, List.set_cons_succ]
  refine wpAnyH_take (i := 1) (oi := oS1) (v := .int .i64 k) rfl (by kernel_rfl) (by kernel_rfl) (by kernel_rfl) (fun _ _ _ h => h) (Or.inl ⟨by rfl, fun w hSw => ?_⟩) hHeld ?_
  · (try dsimp only at hSw)
    unfold oS1
    go_simp
  try simp only [oS1, Act.put, List.setIfInBounds_toArray, List.set_cons_zero, List.set_cons_succ]
  refine wpAnyH_take (i := 2) (oi := oS2) (v := .slice (some ⟨gf, 0, none⟩) fs.length cf) rfl (by kernel_rfl) (by kernel_rfl) (by kernel_rfl) (fun _ _ _ h => h) (Or.inl ⟨by rfl, fun w hSw => ?_⟩) hHeld ?_
  · (try dsimp only at hSw)
    unfold oS2
    go_simp
  try simp only [oS2, Act.put, List.setIfInBounds_toArray, List.set_cons_zero, List.set_cons_succ]
  refine wpAnyH_take (i := 3) (oi := oS3) (v := .int .i64 k) rfl (by kernel_rfl) (by kernel_rfl) (by kernel_rfl) (fun _ _ _ h => h) (Or.inl ⟨by rfl, fun w hSw => ?_⟩) hHeld ?_
  · (try dsimp only at hSw)
    unfold oS3
    go_simp
  try simp only [oS3, Act.put, List.setIfInBounds_toArray, List.set_cons_zero, List.set_cons_succ]
  refine wpAnyH_take (i := 4) (oi := oS4) (v := .pointer (some ⟨gf, k, none⟩)) rfl (by kernel_rfl) (by kernel_rfl) (by kernel_rfl) (fun _ _ _ h => h) (Or.inl ⟨by rfl, fun w hSw => ?_⟩) hHeld ?_
  · (try dsimp only at hSw)
    unfold oS4
    go_simp
  try simp only [oS4, Act.put, List.setIfInBounds_toArray, List.set_cons_zero, List.set_cons_succ]
  refine wpAnyH_take (i := 6) (oi := oS6) (v := .slice a0 len0 cap0) rfl (by kernel_rfl) (by kernel_rfl) (by kernel_rfl) (fun _ _ _ h => h) (Or.inl ⟨by rfl, fun w hSw => ?_⟩) hHeld ?_
  · (try dsimp only at hSw)
    unfold oS6
    go_simp
  try simp only [oS6, Act.put, List.setIfInBounds_toArray, List.set_cons_zero, List.set_cons_succ]
  refine wpAnyH_ready (rs := [5, 7]) (by kernel_rfl) (by simp) ?_
  refine AllReadyH.cons (o := oS5) rfl (fun K hK => ?_) (AllReadyH.cons (o := oS7) rfl (fun K hK => ?_) AllReadyH.nil)
  · unfold oS5
    go_simp
    refine hK.out _ _ trivial (fun hHeld => ?_)
    clear hK K
    try simp only [oS5, Act.put, List.setIfInBounds_toArray, List.set_cons_zero, List.set_cons_succ]
    refine wpAnyH_ready (rs := [7]) (by kernel_rfl) (by simp) ?_
    refine AllReadyH.cons (o := oS7) rfl (fun K hK => ?_) AllReadyH.nil
    unfold oS7
    go_simp
    go_wp2_with fail
    refine (Code11.atC _ a0 len0 cap0 2 TL (by omega) ((unhide HC).below (unhide B).drew)).mono ?_
    rintro e u6 ⟨z, z0, z1, rfl, rfl⟩
    go_wp2_with fail
    refine hK.out _ _ trivial (fun hHeld => ?_)
    clear hK K
    try simp only [oS7, Act.put, List.setIfInBounds_toArray, List.set_cons_zero, List.set_cons_succ]
    have x0 : z.tmod 255 = z % 255 := Int.tmod_eq_emod_of_nonneg z0
    have x1 : wrap64 (z % 255) = z % 255 := by rw [wrap64]; omega
    have x2 : wrap64 (1 + z % 255) = 1 + z % 255 := by rw [wrap64]; omega
    have x4 : IntKind.i64.wrap (1 + z % 255) = 1 + z % 255 := by rw [IntKind.wrap_i64]; omega
    have x3 : IntKind.u8.wrap (1 + z % 255) = 1 + z % 255 := by rw [IntKind.wrap_u8]; omega
    refine wpAnyH_take (i := 8) (oi := oS8) (v := .int .i64 (z % 255)) rfl (by kernel_rfl) (by kernel_rfl) (by kernel_rfl) (fun _ _ _ h => h) (Or.inl ⟨by rfl, fun w hSw => ?_⟩) hHeld ?_
    · (try dsimp only at hSw)
      unfold oS8
      go_simp
    try simp only [oS8, Act.put, List.setIfInBounds_toArray, List.set_cons_zero, List.set_cons_succ]
    refine wpAnyH_take (i := 9) (oi := oS9) (v := .int .i64 (1 + z % 255)) rfl (by kernel_rfl) (by kernel_rfl) (by kernel_rfl) (fun _ _ _ h => h) (Or.inl ⟨by rfl, fun w hSw => ?_⟩) hHeld ?_
    · (try dsimp only at hSw)
      unfold oS9
      go_simp
    try simp only [oS9, Act.put, List.setIfInBounds_toArray, List.set_cons_zero, List.set_cons_succ]
    refine wpAnyH_take (i := 10) (oi := oS10) (v := .int .u8 (1 + z % 255)) rfl (by kernel_rfl) (by kernel_rfl) (by kernel_rfl) (fun _ _ _ h => h) (Or.inl ⟨by rfl, fun w hSw => ?_⟩) hHeld ?_
    · (try dsimp only at hSw)
      unfold oS10
      go_simp
    try simp only [oS10, Act.put, List.setIfInBounds_toArray, List.set_cons_zero, List.set_cons_succ]
    refine wpAnyH_take (i := 11) (oi := oS11) (v := .int .u8 (bits .xor .u8 v (1 + z % 255))) rfl (by kernel_rfl) (by kernel_rfl) (by kernel_rfl) (fun _ _ _ h => h) (Or.inl ⟨by rfl, fun w hSw => ?_⟩) hHeld ?_
    · (try dsimp only at hSw)
      unfold oS11
      go_simp
    try simp only [oS11, Act.put, List.setIfInBounds_toArray, List.set_cons_zero, List.set_cons_succ]
    refine wpAnyH_take (i := 12) (oi := oS12) (v := .pointer (some ⟨gf, k, none⟩)) rfl (by kernel_rfl) (by kernel_rfl) (by kernel_rfl) (fun _ _ _ h => h) (Or.inl ⟨by rfl, fun w hSw => ?_⟩) hHeld ?_
    · (try dsimp only at hSw)
      unfold oS12
      go_simp
    try simp only [oS12, Act.put, List.setIfInBounds_toArray, List.set_cons_zero, List.set_cons_succ]
    refine wpAnyH_ready (rs := [13]) (by kernel_rfl) (by simp) ?_
    refine AllReadyH.cons (o := oS13) rfl (fun K hK => ?_) AllReadyH.nil
    unfold oS13
    go_simp
    refine hK.out _ _ trivial (fun hHeld => ?_)
    clear hK K
    try simp only [oS13, Act.put, List.setIfInBounds_toArray, List.set_cons_zero, List.set_cons_succ]
    refine wpAnyH_done (by kernel_rfl) ?_ _
    have xt := xor_turn v (1 + z % 255) (unhide VI) ⟨by omega, by omega⟩
    generalize bits .xor .u8 v (1 + z % 255) = x at *
    have LS : (fs.set k x).length = fs.length := by simp
    have SW := ((unhide OW).set k x).1
    have gw := (unhide OW).lt
    replace B := hide ((unhide B).setCell (p := ⟨gf, k, none⟩) (by show _ ≤ gf; have := (unhide LB).1; omega) (.int .u8 x))
    have UW := hide (IUnseal11.iUnseal (u5.setCell ⟨gf, k, none⟩ (.int .u8 x)).drew gf cf (fs.set k x) 0 (by rw [LS]; omega) (by rw [LS]; exact own_cap (unhide OW)) (by omega) SW.lt.2 (fun i hi => ⟨SW.at i hi, in_get (fun y hy => by
      rcases List.mem_or_eq_of_mem_set hy with h | h
      · exact (unhide SI) y h
      · rw [h]; exact xt.1) i hi⟩))
    have UV := (unhide UT) k x (by rw [← unhide NE, unhide HN]; exact (unhide hk).2.1) kl xt.1 (by rw [unhide HV]; exact xt.2)
    rw [UV, LS] at UW
    clear xt SW LS UV x0 x1 x2 x3 x4 z0 z1 v0 vf
    go_wp2_with fail
    refine (unhide UW).mono ?_
    rintro e u7 ⟨a7, c7, rfl, _, bb⟩
    replace B := hide ((unhide B).drew.trans (bb.mono (unhide B).drew.size))
    clear bb
    go_wp2
    go_ret
    exact ⟨rfl, unhide B⟩
  · unfold oS7
    go_simp
    go_wp2_with fail
    refine (Code11.atC _ a0 len0 cap0 2 TL (by omega) ((unhide HC).below (unhide B).drew)).mono ?_
    rintro e u6 ⟨z, z0, z1, rfl, rfl⟩
    go_wp2_with fail
    refine hK.out _ _ trivial (fun hHeld => ?_)
    clear hK K
    try simp only [oS7, Act.put, List.setIfInBounds_toArray, List.set_cons_zero, List.set_cons_succ]
    have x0 : z.tmod 255 = z % 255 := Int.tmod_eq_emod_of_nonneg z0
    have x1 : wrap64 (z % 255) = z % 255 := by rw [wrap64]; omega
    have x2 : wrap64 (1 + z % 255) = 1 + z % 255 := by rw [wrap64]; omega
    have x4 : IntKind.i64.wrap (1 + z % 255) = 1 + z % 255 := by rw [IntKind.wrap_i64]; omega
    have x3 : IntKind.u8.wrap (1 + z % 255) = 1 + z % 255 := by rw [IntKind.wrap_u8]; omega
    refine wpAnyH_take (i := 8) (oi := oS8) (v := .int .i64 (z % 255)) rfl (by kernel_rfl) (by kernel_rfl) (by kernel_rfl) (fun _ _ _ h => h) (Or.inl ⟨by rfl, fun w hSw => ?_⟩) hHeld ?_
    · (try dsimp only at hSw)
      unfold oS8
      go_simp
    try simp only [oS8, Act.put, List.setIfInBounds_toArray, List.set_cons_zero, List.set_cons_succ]
    refine wpAnyH_take (i := 9) (oi := oS9) (v := .int .i64 (1 + z % 255)) rfl (by kernel_rfl) (by kernel_rfl) (by kernel_rfl) (fun _ _ _ h => h) (Or.inl ⟨by rfl, fun w hSw => ?_⟩) hHeld ?_
    · (try dsimp only at hSw)
      unfold oS9
      go_simp
    try simp only [oS9, Act.put, List.setIfInBounds_toArray, List.set_cons_zero, List.set_cons_succ]
    refine wpAnyH_take (i := 10) (oi := oS10) (v := .int .u8 (1 + z % 255)) rfl (by kernel_rfl) (by kernel_rfl) (by kernel_rfl) (fun _ _ _ h => h) (Or.inl ⟨by rfl, fun w hSw => ?_⟩) hHeld ?_
    · (try dsimp only at hSw)
      unfold oS10
      go_simp
    try simp only [oS10, Act.put, List.setIfInBounds_toArray, List.set_cons_zero, List.set_cons_succ]
    refine wpAnyH_ready (rs := [5]) (by kernel_rfl) (by simp) ?_
    refine AllReadyH.cons (o := oS5) rfl (fun K hK => ?_) AllReadyH.nil
    unfold oS5
    go_simp
    refine hK.out _ _ trivial (fun hHeld => ?_)
    clear hK K
    try simp only [oS5, Act.put, List.setIfInBounds_toArray, List.set_cons_zero, List.set_cons_succ]
    refine wpAnyH_take (i := 11) (oi := oS11) (v := .int .u8 (bits .xor .u8 v (1 + z % 255))) rfl (by kernel_rfl) (by kernel_rfl) (by kernel_rfl) (fun _ _ _ h => h) (Or.inl ⟨by rfl, fun w hSw => ?_⟩) hHeld ?_
    · (try dsimp only at hSw)
      unfold oS11
      go_simp
    try simp only [oS11, Act.put, List.setIfInBounds_toArray, List.set_cons_zero, List.set_cons_succ]
    refine wpAnyH_take (i := 12) (oi := oS12) (v := .pointer (some ⟨gf, k, none⟩)) rfl (by kernel_rfl) (by kernel_rfl) (by kernel_rfl) (fun _ _ _ h => h) (Or.inl ⟨by rfl, fun w hSw => ?_⟩) hHeld ?_
    · (try dsimp only at hSw)
      unfold oS12
      go_simp
    try simp only [oS12, Act.put, List.setIfInBounds_toArray, List.set_cons_zero, List.set_cons_succ]
    refine wpAnyH_ready (rs := [13]) (by kernel_rfl) (by simp) ?_
    refine AllReadyH.cons (o := oS13) rfl (fun K hK => ?_) AllReadyH.nil
    unfold oS13
    go_simp
    refine hK.out _ _ trivial (fun hHeld => ?_)
    clear hK K
    try simp only [oS13, Act.put, List.setIfInBounds_toArray, List.set_cons_zero, List.set_cons_succ]
    refine wpAnyH_done (by kernel_rfl) ?_ _
    have xt := xor_turn v (1 + z % 255) (unhide VI) ⟨by omega, by omega⟩
    generalize bits .xor .u8 v (1 + z % 255) = x at *
    have LS : (fs.set k x).length = fs.length := by simp
    have SW := ((unhide OW).set k x).1
    have gw := (unhide OW).lt
    replace B := hide ((unhide B).setCell (p := ⟨gf, k, none⟩) (by show _ ≤ gf; have := (unhide LB).1; omega) (.int .u8 x))
    have UW := hide (IUnseal11.iUnseal (u5.setCell ⟨gf, k, none⟩ (.int .u8 x)).drew gf cf (fs.set k x) 0 (by rw [LS]; omega) (by rw [LS]; exact own_cap (unhide OW)) (by omega) SW.lt.2 (fun i hi => ⟨SW.at i hi, in_get (fun y hy => by
      rcases List.mem_or_eq_of_mem_set hy with h | h
      · exact (unhide SI) y h
      · rw [h]; exact xt.1) i hi⟩))
    have UV := (unhide UT) k x (by rw [← unhide NE, unhide HN]; exact (unhide hk).2.1) kl xt.1 (by rw [unhide HV]; exact xt.2)
    rw [UV, LS] at UW
    clear xt SW LS UV x0 x1 x2 x3 x4 z0 z1 v0 vf
    go_wp2_with fail
    refine (unhide UW).mono ?_
    rintro e u7 ⟨a7, c7, rfl, _, bb⟩
    replace B := hide ((unhide B).drew.trans (bb.mono (unhide B).drew.size))
    clear bb
    go_wp2
    go_ret
    exact ⟨rfl, unhide B⟩

set_option maxRecDepth 100000 in
theorem lifted (os : Os) (started : os.Started) (H : Type) (enc : TypeId × Value → H) :
    ReturnsInHanded {} Try.checked os 4 .any (Rows.fnSealSpec.pre6 enc Try.prog Try.f4 Rows.fnSealRow.domain false) (Rows.fnSealSpec.post enc Try.prog Try.f4 false true false false) := by
  refine returnsInHanded_of_change (C := Try.checked) own started (by kernel_rfl) Try.func4
    (ChangeSpec.witness6 (enc := enc) (C := Try.checked) false ⟨#[], #[.slice none 0 0], []⟩ 8 (by kernel_rfl) (by kernel_rfl) (by kernel_rfl) (by kernel_rfl)) ?_
  intro W base args ds gs before hval0 hW hcnd _
  have hval : ∀ (j : Nat) t v, Try.f4.params[j]? = some t → args[j]? = some v → Value.okWide Try.prog W .any base t v := hval0
  have hW' := hW
  obtain ⟨p, q, hA0, hV, rfl, hfz, hnd⟩ := hW
  have hA : DataW.TrodAll enc Try.prog W 0 (fun _ => true) true Try.f4.params.toList args.toList ds p := hA0
  rw [Try.params4] at hA hval
  obtain ⟨v0, vs0, d0, ds0, p0, q0, hargs, rfl, rfl, h0, r0⟩ := trodAll_cons hA
  obtain ⟨rfl, rfl, rfl⟩ := trodAll_nil r0
  obtain rfl : args = #[v0] := by cases args; simp_all
  obtain ⟨rfl, rfl⟩ := trodVars_none hV
  obtain ⟨a0, len0, cap0, rfl⟩ := okWide_slice Try.underlying22 (hval 0 22 v0 rfl rfl)
  have k0 := h0
  have lt0 : ∀ x ∈ p0, x.block < W.heap.size := by obtain ⟨m, hm⟩ := k0; exact DataW.trod_lt m _ _ _ hm
  obtain ⟨z0, w0⟩ : ∃ zs, Ints.IsRow .u8 W a0 len0 cap0 zs := by
    obtain ⟨fuel, hf⟩ := h0
    rcases open_ints Try.underlying22 Try.underlying5 (by kernel_rfl) hf with ⟨hcs, _⟩ | ⟨x, l, c, zs, hcs, _, hl, hm, hz, _, hcell, hwz⟩
    · simp [Value.cells] at hcs
      obtain ⟨rfl, rfl, rfl⟩ := hcs
      exact ⟨[], .inl ⟨rfl, rfl, rfl, rfl⟩⟩
    · simp [Value.cells] at hcs
      obtain ⟨rfl, rfl, rfl⟩ := hcs
      exact ⟨zs, .inr ⟨_, rfl, hl, hm, by simpa using hz, hcell, hwz⟩⟩
  clear hA0 hval0
  refine (walk a0 len0 cap0 z0 W w0).mono fun e W' ⟨he, bel⟩ => ?_
  subst he
  exact ⟨_, rfl, _, _, _, [], _, [], hW', trodAll_mk1 (shut_bool Try.underlying4 _), (trodAll_cons_mk (Below.trod laidOut (by kernel_rfl) (of_decide_eq_true (by kernel_rfl)) k0 bel lt0) trodAll_mk0), rfl, bel.frame _, fun h => by cases h⟩

theorem over : Rows.fnSealRow.holds Try.pinned (OpenSpec.ofChange Rows.fnSealSpec) :=
  OpenClaim.holds_of_wide 4 Try.f4 rfl rfl rfl rfl rfl rfl rfl ⟨rfl, rfl, rfl, rfl, rfl⟩ rfl rfl rfl rfl rfl (by kernel_rfl) Try.func4 (by kernel_rfl)
    (of_decide_eq_true (by kernel_rfl)) (by unfold Func.isWrapper; first | (rw [if_pos (by decide +kernel)]; kernel_rfl) | (rw [if_neg (by decide +kernel)]; exact ⟨rfl, rfl⟩))
    (fun os started H enc _ => lifted os started H enc)

/-- The statement. -/
theorem proved : Rows.FnSealSaid := over
#print axioms proved
end Go.Proofs.Ytpplmecddmpjbaa.fnSeal
