/- Texts of one proof, one behind the other: SLate15, SSync14, SCut14, Ok14, SAdd15, SMend15, LenAppend14, LenSync14, LenCut14, SFrom15. -/
import Derived.Test.YticofefdbjihiaaRows
import Derived.Test.YticofefdbjihiaaFG1
import Derived.Test.YticofefdbjihiaaFG2
import Derived.Test.YticofefdbjihiaaFG3
import Derived.Test.YticofefdbjihiaaFG4
import Derived.Test.YticofefdbjihiaaFG5
import Derived.Test.YticofefdbjihiaaFG6
import Derived.Deep.RegionHeld3
import Derived.Maps.AppendAt
set_option linter.unusedVariables false
set_option linter.unusedSimpArgs false
namespace Go.Proofs.Yticofefdbjihiaa.SLate15
open Go.ChangeShapes Go.WideShapes Go.ChangeAt Go.RowKit Fil14 OpensF14 DiskH14 DkH14 SDk14 SOk14 SRd14 SCom14 SAppend14 Conv15 SegP15 SSeg15
open SBytes (AtB)
open SSeal11 (sealB sSeal)
/-- The seal of a text, as a text. -/
def sealT (s : ByteArray) : ByteArray := strOfNums (sealB (nums s))
/-- What SegLate answers. -/
noncomputable def lateD (room : Int) (ps : List TF) (seg : Int) (s : ByteArray) : (Int × List TF) × Int := if s.size ≤ 9000 ∧ okS seg = true then appendD room ps seg (sealT s) else ((0, []), 1)
set_option maxRecDepth 100000 in
set_option maxHeartbeats 4000000 in
theorem sSegLate (w : World) (x : Dx) (seg : Int) (s : ByteArray) (hr : RdD w x) (hz : sumZ x.ps ≤ 1048576) (hs : s.size ≤ 1048576) :
    Calls Try.prog 21 #[.agg #[.int .i64 x.room, .slice x.a x.ps.length x.c], .int .i64 seg, .string s] w (ToldD (lateD x.room x.ps seg s) w) := by
  have G0 := hide (begunD hr)
  have s2 : ((w.alloc (.cells #[.int .i64 x.room, .slice x.a x.ps.length x.c] 31)).alloc (.cells #[.int .i64 0, .slice none 0 0] 31)).heap.size = w.heap.size + 2 := by simp
  obtain ⟨cb, W3, hcb, CV, AB, s3, b3⟩ := to_bytes ((w.alloc (.cells #[.int .i64 x.room, .slice x.a x.ps.length x.c] 31)).alloc (.cells #[.int .i64 0, .slice none 0 0] 31)) s
  have W4 := hide ((unhide G0).1.step b3)
  have R4 := hide ((unhide G0).2.below b3 (by omega))
  rw [s2] at CV AB s3
  have SE := hide (sSeal W3 (w.heap.size + 2) cb (nums s) (by rw [nums_len]; exact hs) (by omega) AB)
  have RE := hide (show lateD x.room x.ps seg s = if s.size ≤ 9000 ∧ okS seg = true then appendD x.room x.ps seg (sealT s) else ((0, []), 1) from rfl)
  have AP := hide (fun u (h : RdD u x) hq => sDiskAppend u x seg (sealT s) h hz hq)
  have ET : sealT s = strOfNums (sealB (nums s)) := rfl
  have XL := hide (nums_len s)
  rw [ET] at AP RE
  generalize lateD x.room x.ps seg s = rr at *
  generalize appendD x.room x.ps seg (strOfNums (sealB (nums s))) = ra at *
  generalize sealB (nums s) = sb at *
  generalize nums s = xs at *
  clear hr G0 AB b3 ET hcb
  go_enter Try.func21, Try.ntmps21
  go_wp2_with fail
  refine (unhide SE).mono ?_
  rintro e u ⟨g, c, rfl, o5, b5⟩
  have CB := of_bytes u g c sb o5.at
  have SB := hide (show sb.length ≤ 9223372036854775807 by
    rcases o5.2 with ⟨h1, _⟩ | ⟨g', c', cur, h1, h2, h3, h4, h5, h6⟩
    · simp at h1
    · unfold maxLen at h5
      omega)
  have W5 := hide ((unhide W4).step b5)
  have R5 := hide ((unhide R4).below b5 (unhide R4).lt.2)
  have us := b5.size
  clear o5 b5 CV SE W4 R4
  have c0 := (unhide W5).c0
  have c1 := (unhide W5).c1
  have lt := (unhide W5).lt
  by_cases q : s.size ≤ 9000
  case neg =>
    have E := hide (show rr = ((0, []), 1) by rw [unhide RE, if_neg (fun h => q h.1)])
    have EN := hide (endedD (y := ⟨0, none, 0, []⟩) (base0 := w.heap.size + 2) (unhide W5).b (unhide R5) ⟨rfl, .inl ⟨rfl, rfl⟩⟩ (by omega))
    have f0 := (unhide R5).free 0
    have f1 := (unhide R5).free 1
    have r0 := (unhide R5).c0
    have r1 := (unhide R5).c1
    have qd : decide (xs.length ≤ 9000) = false := decide_eq_false (by rw [unhide XL]; exact q)
    clear RE AP q CB c0 c1 lt
    go_wp2
    refine bodyPost_ret (v := .tuple #[.agg #[.int .i64 0, .slice none 0 0], .int .i64 1]) (by simp [results, Try.results21, go_sem, r0, r1]) rfl ?_
    rw [unhide E]
    exact ⟨⟨0, none, 0, []⟩, rfl, rfl, (unhide EN).1, (unhide EN).2⟩
  have qd : decide (xs.length ≤ 9000) = true := decide_eq_true (by rw [unhide XL]; exact q)
  cases sk : okS seg with
  | false =>
    have E := hide (show rr = ((0, []), 1) by rw [unhide RE, if_neg (fun h => by rw [sk] at h; simp at h)])
    have EN := hide (endedD (y := ⟨0, none, 0, []⟩) (base0 := w.heap.size + 2) (unhide W5).b (unhide R5) ⟨rfl, .inl ⟨rfl, rfl⟩⟩ (by omega))
    have f0 := (unhide R5).free 0
    have f1 := (unhide R5).free 1
    have r0 := (unhide R5).c0
    have r1 := (unhide R5).c1
    have SK := hide sk
    clear RE AP q CB sk c0 c1 lt
    go_wp2_with fail
    refine (sSegOk _ seg false (unhide SK)).mono ?_
    rintro e u ⟨rfl, rfl⟩
    go_wp2
    refine bodyPost_ret (v := .tuple #[.agg #[.int .i64 0, .slice none 0 0], .int .i64 1]) (by simp [results, Try.results21, go_sem, r0, r1]) rfl ?_
    rw [unhide E]
    exact ⟨⟨0, none, 0, []⟩, rfl, rfl, (unhide EN).1, (unhide EN).2⟩
  | true =>
    have E := hide (show rr = ra by rw [unhide RE, if_pos ⟨q, sk⟩])
    have SK := hide sk
    clear RE q sk
    go_wp2_with fail
    refine (sSegOk _ seg true (unhide SK)).mono ?_
    rintro e u ⟨rfl, rfl⟩
    go_wp2_with fail
    refine (unhide AP _ (unhide W5).r (by rw [strOfNums_size]; exact unhide SB)).mono ?_
    rintro e u9 ⟨y, hy, rfl, oy, b9⟩
    obtain ⟨rd, rc⟩ := ra
    have R9 := hide ((unhide R5).below b9 (unhide R5).lt.2)
    have HY := hide hy
    have EN := hide (endedD ((unhide W5).b.trans (b9.mono (unhide W5).b.size)) (unhide R9) oy (unhide R5).lt.2)
    have f0 := (unhide R9).free 0
    have f1 := (unhide R9).free 1
    have r0 := (unhide R9).c0
    have r1 := (unhide R9).c1
    clear b9 oy hy c0 c1 lt CB AP
    go_wp2
    refine bodyPost_ret (v := .tuple #[.agg #[.int .i64 y.room, .slice y.a y.ps.length y.c], .int .i64 rc]) (by simp [results, Try.results21, go_sem, r0, r1]) rfl ?_
    rw [unhide E]
    exact ⟨y, unhide HY, rfl, (unhide EN).1, (unhide EN).2⟩
end Go.Proofs.Yticofefdbjihiaa.SLate15
namespace Go.Proofs.Yticofefdbjihiaa.SSync14
open Go.ChangeShapes Go.WideShapes Go.ChangeAt Go.RowKit Fil14 OpensF14 DiskH14 DkH14 SDk14 SOk14 SRd14 App14 SLess14 SCopy14 SRef14 SCom14 SPut14
/-- What DiskSync answers. -/
def syncD (room : Int) (ps : List TF) (nm : Int) : (Int × List TF) × Int := if (atD room ps nm).2 = 0 then ((room, putF ps (nm, bytesAt ps (atD room ps nm).1.toNat, ByteArray.empty)), 0) else (refD (atD room ps nm).2 room ps, (atD room ps nm).2)
set_option maxRecDepth 100000 in
set_option maxHeartbeats 4000000 in
theorem sDiskSync (w : World) (x : Dx) (nm : Int) (hr : RdD w x) (hz : sumZ x.ps ≤ 1048576) :
    Calls Try.prog 44 #[.agg #[.int .i64 x.room, .slice x.a x.ps.length x.c], .int .i64 nm] w (ToldD (syncD x.room x.ps nm) w) := by
  have G0 := hide (begunD hr)
  have s2 : ((w.alloc (.cells #[.int .i64 x.room, .slice x.a x.ps.length x.c] 31)).alloc (.cells #[.int .i64 0, .slice none 0 0] 31)).heap.size = w.heap.size + 2 := by simp
  have AT := hide (sAt _ x nm (unhide G0).1.r hz)
  have AI := hide (at_in (room := x.room) (ps := x.ps) (nm := nm))
  have RE := hide (show syncD x.room x.ps nm = if (atD x.room x.ps nm).2 = 0 then ((x.room, putF x.ps (nm, bytesAt x.ps (atD x.room x.ps nm).1.toNat, ByteArray.empty)), 0) else (refD (atD x.room x.ps nm).2 x.room x.ps, (atD x.room x.ps nm).2) from rfl)
  generalize syncD x.room x.ps nm = rr at *
  generalize atD x.room x.ps nm = at' at *
  obtain ⟨k0, c⟩ := at'
  clear hr
  go_enter Try.func44, Try.ntmps44
  go_wp2_with fail
  generalize (w.alloc (.cells #[.int .i64 x.room, .slice x.a x.ps.length x.c] 31)).alloc (.cells #[.int .i64 0, .slice none 0 0] 31) = W at *
  refine (unhide AT).mono ?_
  rintro e u ⟨rfl, b1⟩
  have W1 := hide ((unhide G0).1.step b1)
  have R1 := hide ((unhide G0).2.below b1 (by omega))
  have us := b1.size
  clear b1 AT G0
  have c0 := (unhide W1).c0
  have c1 := (unhide W1).c1
  have lt := (unhide W1).lt
  by_cases q : c = 0
  case neg =>
    have E := hide (show rr = (refD c x.room x.ps, c) by rw [unhide RE, if_neg q])
    have qb : (c != 0) = true := by simpa using q
    clear RE AI q
    go_wp2_with fail
    refine (sRefused u x c (unhide W1).r).mono ?_
    rintro e u2 ⟨y, hy, rfl, oy, b2⟩
    have R2 := hide ((unhide R1).below b2 (unhide R1).lt.2)
    have EN := hide (endedD ((unhide W1).b.trans (b2.mono (unhide W1).b.size)) (unhide R2) oy (by omega))
    have HY := hide hy
    have f0 := (unhide R2).free 0
    have f1 := (unhide R2).free 1
    have r0 := (unhide R2).c0
    have r1 := (unhide R2).c1
    clear b2 oy hy c0 c1 lt W1 R1
    go_wp2
    refine bodyPost_ret (v := .tuple #[.agg #[.int .i64 y.room, .slice y.a y.ps.length y.c], .int .i64 c]) (by simp [results, Try.results44, go_sem, r0, r1]) rfl ?_
    rw [unhide E]
    exact ⟨y, unhide HY, rfl, (unhide EN).1, (unhide EN).2⟩
  subst q
  obtain ⟨ok, okn, k, rfl, kl, en⟩ := (unhide AI) rfl
  have E := hide (show rr = ((x.room, putF x.ps (nm, bytesAt x.ps k, ByteArray.empty)), 0) by rw [unhide RE, if_pos rfl]; rfl)
  have h22 := ok.2.1
  have kt : (k : Int) < x.ps.length := by omega
  obtain ⟨g, ea, lg, d0, d1, d2⟩ := cells_of (unhide W1).r kl
  have ix := ixF x.c ea kl
  have ES := hide (show bytesAt x.ps k = (elF x.ps k).2.1 ++ (elF x.ps k).2.2 from rfl)
  have NX := sumZ_next kl
  have LE := sumZ_le x.ps (k + 1)
  have s1 : (elF x.ps k).2.1.size + (elF x.ps k).2.2.size ≤ 1048576 := by omega
  clear RE AI ok okn en ea NX LE
  generalize (elF x.ps k).1 = z0 at *
  generalize (elF x.ps k).2.1 = z1 at *
  generalize (elF x.ps k).2.2 = z2 at *
  have W3 := hide ((unhide W1).step (one_more u (.cells #[.int .i64 z0, .string z1, .string z2] 69)))
  have R3 := hide ((unhide R1).below (one_more u (.cells #[.int .i64 z0, .string z1, .string z2] 69)) (unhide R1).lt.2)
  go_wp2_with fail
  refine (sPut _ x nm (z1 ++ z2) ByteArray.empty (unhide W3).r h22).mono ?_
  rintro e u2 ⟨y, hy0, hy, rfl, oy, b2⟩
  have R2 := hide ((unhide R3).below b2 (unhide R3).lt.2)
  have EN := hide (endedD ((unhide W3).b.trans (b2.mono (unhide W3).b.size)) (unhide R2) oy (by simp; omega))
  have HY := hide (show (y.room, y.ps) = (x.room, putF x.ps (nm, bytesAt x.ps k, ByteArray.empty)) by rw [hy0, hy, unhide ES])
  have f0 := (unhide R2).free 0
  have f1 := (unhide R2).free 1
  have r0 := (unhide R2).c0
  have r1 := (unhide R2).c1
  clear b2 oy hy hy0 c0 c1 lt W1 R1 W3 R3 d0 d1 d2 ix s1
  go_wp2
  refine bodyPost_ret (v := .tuple #[.agg #[.int .i64 y.room, .slice y.a y.ps.length y.c], .int .i64 0]) (by simp [results, Try.results44, go_sem, r0, r1]) rfl ?_
  rw [unhide E]
  exact ⟨y, unhide HY, rfl, (unhide EN).1, (unhide EN).2⟩
end Go.Proofs.Yticofefdbjihiaa.SSync14
namespace Go.Proofs.Yticofefdbjihiaa.SCut14
open Go.ChangeShapes Go.WideShapes Go.ChangeAt Go.RowKit Fil14 OpensF14 DiskH14 DkH14 SDk14 SOk14 SRd14 App14 SLess14 SCopy14 SRef14 SCom14 SPut14
open DkH14 (row_step)
/-- What DiskCut answers. -/
def cutD (room : Int) (ps : List TF) (nm n : Int) : (Int × List TF) × Int := if (atD room ps nm).2 = 0 then (if 0 ≤ n ∧ n ≤ (bytesAt ps (atD room ps nm).1.toNat).size then ((room, putF ps (nm, (bytesAt ps (atD room ps nm).1.toNat).extract 0 n.toNat, ByteArray.empty)), 0) else (refD 2 room ps, 2)) else (refD (atD room ps nm).2 room ps, (atD room ps nm).2)
abbrev oE0 : Oper := { dst := some 17, op := Go.Op.move (Go.Operand.tmp 9), type := 3, pos := "l14_disk.go:124", after := #[], guard := none }
abbrev oE1 : Oper := { dst := some 18, op := Go.Op.binOp Go.BinOp.eql 3 (Go.Operand.tmp 17) (Go.Operand.const (Go.Value.int Go.IntKind.i64 0)) 3, type := 4, pos := "l14_disk.go:124", after := #[{ on := 0, ground := Go.Ground.data }], guard := none }
abbrev oE2 : Oper := { dst := some 19, op := Go.Op.move (Go.Operand.tmp 18), type := 4, pos := "l14_disk.go:124", after := #[{ on := 1, ground := Go.Ground.data }], guard := none }
abbrev oE3 : Oper := { dst := some 20, op := Go.Op.move (Go.Operand.tmp 2), type := 3, pos := "l14_disk.go:124", after := #[{ on := 2, ground := Go.Ground.guard }], guard := some (2, true) }
abbrev oE4 : Oper := { dst := some 21, op := Go.Op.fieldAddr 31 (Go.Operand.tmp 3) 1, type := 0, pos := "l14_disk.go:124", after := #[{ on := 2, ground := Go.Ground.guard }], guard := some (2, true) }
abbrev oE5 : Oper := { dst := some 22, op := Go.Op.load 29 (Go.Operand.tmp 21), type := 29, pos := "l14_disk.go:124", after := #[{ on := 4, ground := Go.Ground.data }, { on := 2, ground := Go.Ground.guard }], guard := some (2, true) }
abbrev oE6 : Oper := { dst := some 23, op := Go.Op.move (Go.Operand.tmp 8), type := 3, pos := "l14_disk.go:124", after := #[{ on := 2, ground := Go.Ground.guard }], guard := some (2, true) }
abbrev oE7 : Oper := { dst := some 24, op := Go.Op.indexAddr 29 (Go.Operand.tmp 22) (Go.Operand.tmp 23), type := 0, pos := "l14_disk.go:124", after := #[{ on := 5, ground := Go.Ground.data }, { on := 6, ground := Go.Ground.data }, { on := 2, ground := Go.Ground.guard }], guard := some (2, true) }
abbrev oE8 : Oper := { dst := some 25, op := Go.Op.fieldAddr 69 (Go.Operand.tmp 24) 1, type := 0, pos := "l14_disk.go:124", after := #[{ on := 7, ground := Go.Ground.data }, { on := 2, ground := Go.Ground.guard }], guard := some (2, true) }
abbrev oE9 : Oper := { dst := some 26, op := Go.Op.load 9 (Go.Operand.tmp 25), type := 9, pos := "l14_disk.go:124", after := #[{ on := 8, ground := Go.Ground.data }, { on := 2, ground := Go.Ground.guard }], guard := some (2, true) }
abbrev oE10 : Oper := { dst := some 27, op := Go.Op.call { callee := Go.Callee.builtin Go.Builtin.len, args := #[Go.Operand.tmp 26], argTypes := #[9] }, type := 3, pos := "l14_disk.go:124", after := #[{ on := 9, ground := Go.Ground.data }, { on := 2, ground := Go.Ground.guard }], guard := some (2, true) }
abbrev oE11 : Oper := { dst := some 28, op := Go.Op.fieldAddr 31 (Go.Operand.tmp 3) 1, type := 0, pos := "l14_disk.go:124", after := #[{ on := 2, ground := Go.Ground.guard }], guard := some (2, true) }
abbrev oE12 : Oper := { dst := some 29, op := Go.Op.load 29 (Go.Operand.tmp 28), type := 29, pos := "l14_disk.go:124", after := #[{ on := 11, ground := Go.Ground.data }, { on := 2, ground := Go.Ground.guard }], guard := some (2, true) }
abbrev oE13 : Oper := { dst := some 30, op := Go.Op.move (Go.Operand.tmp 8), type := 3, pos := "l14_disk.go:124", after := #[{ on := 2, ground := Go.Ground.guard }], guard := some (2, true) }
abbrev oE14 : Oper := { dst := some 31, op := Go.Op.indexAddr 29 (Go.Operand.tmp 29) (Go.Operand.tmp 30), type := 0, pos := "l14_disk.go:124", after := #[{ on := 12, ground := Go.Ground.data }, { on := 13, ground := Go.Ground.data }, { on := 2, ground := Go.Ground.guard }], guard := some (2, true) }
abbrev oE15 : Oper := { dst := some 32, op := Go.Op.fieldAddr 69 (Go.Operand.tmp 31) 2, type := 0, pos := "l14_disk.go:124", after := #[{ on := 14, ground := Go.Ground.data }, { on := 2, ground := Go.Ground.guard }], guard := some (2, true) }
abbrev oE16 : Oper := { dst := some 33, op := Go.Op.load 9 (Go.Operand.tmp 32), type := 9, pos := "l14_disk.go:124", after := #[{ on := 15, ground := Go.Ground.data }, { on := 2, ground := Go.Ground.guard }], guard := some (2, true) }
abbrev oE17 : Oper := { dst := some 34, op := Go.Op.call { callee := Go.Callee.builtin Go.Builtin.len, args := #[Go.Operand.tmp 33], argTypes := #[9] }, type := 3, pos := "l14_disk.go:124", after := #[{ on := 16, ground := Go.Ground.data }, { on := 2, ground := Go.Ground.guard }], guard := some (2, true) }
abbrev oE18 : Oper := { dst := some 35, op := Go.Op.binOp Go.BinOp.add 3 (Go.Operand.tmp 27) (Go.Operand.tmp 34) 3, type := 3, pos := "l14_disk.go:124", after := #[{ on := 10, ground := Go.Ground.data }, { on := 17, ground := Go.Ground.data }, { on := 2, ground := Go.Ground.guard }], guard := some (2, true) }
abbrev oE19 : Oper := { dst := some 36, op := Go.Op.call { callee := Go.Callee.value (Go.Operand.func 63), args := #[Go.Operand.tmp 20, Go.Operand.const (Go.Value.int Go.IntKind.i64 0), Go.Operand.tmp 35], argTypes := #[3, 3, 3] }, type := 4, pos := "l14_disk.go:124", after := #[{ on := 3, ground := Go.Ground.data }, { on := 18, ground := Go.Ground.data }, { on := 2, ground := Go.Ground.chain }, { on := 2, ground := Go.Ground.guard }], guard := some (2, true) }
abbrev oE20 : Oper := { dst := some 37, op := Go.Op.unOp Go.UnOp.not 4 (Go.Operand.tmp 36), type := 4, pos := "l14_disk.go:124", after := #[{ on := 19, ground := Go.Ground.data }, { on := 2, ground := Go.Ground.guard }], guard := some (2, true) }
abbrev oE21 : Oper := { dst := some 38, op := Go.Op.pick (Go.Operand.tmp 19) (Go.Operand.tmp 37) (Go.Operand.const (Go.Value.bool false)), type := 4, pos := "l14_disk.go:124", after := #[{ on := 2, ground := Go.Ground.data }, { on := 20, ground := Go.Ground.data }], guard := none }
abbrev oF0 : Oper := { dst := some 50, op := Go.Op.load 31 (Go.Operand.tmp 3), type := 31, pos := "l14_disk.go:131", after := #[], guard := none }
abbrev oF1 : Oper := { dst := some 51, op := Go.Op.move (Go.Operand.tmp 1), type := 3, pos := "l14_disk.go:131", after := #[], guard := none }
abbrev oF2 : Oper := { dst := some 52, op := Go.Op.fieldAddr 69 (Go.Operand.tmp 10) 1, type := 0, pos := "l14_disk.go:131", after := #[], guard := none }
abbrev oF3 : Oper := { dst := some 53, op := Go.Op.load 9 (Go.Operand.tmp 52), type := 9, pos := "l14_disk.go:131", after := #[{ on := 2, ground := Go.Ground.data }], guard := none }
abbrev oF4 : Oper := { dst := some 54, op := Go.Op.fieldAddr 69 (Go.Operand.tmp 10) 2, type := 0, pos := "l14_disk.go:131", after := #[], guard := none }
abbrev oF5 : Oper := { dst := some 55, op := Go.Op.load 9 (Go.Operand.tmp 54), type := 9, pos := "l14_disk.go:131", after := #[{ on := 4, ground := Go.Ground.data }], guard := none }
abbrev oF6 : Oper := { dst := some 56, op := Go.Op.binOp Go.BinOp.add 9 (Go.Operand.tmp 53) (Go.Operand.tmp 55) 9, type := 9, pos := "l14_disk.go:131", after := #[{ on := 3, ground := Go.Ground.data }, { on := 5, ground := Go.Ground.data }], guard := none }
abbrev oF7 : Oper := { dst := some 57, op := Go.Op.move (Go.Operand.tmp 2), type := 3, pos := "l14_disk.go:131", after := #[], guard := none }
abbrev oF8 : Oper := { dst := some 58, op := Go.Op.slice 9 (Go.Operand.tmp 56) none (some (Go.Operand.tmp 57)) none, type := 9, pos := "l14_disk.go:131", after := #[{ on := 6, ground := Go.Ground.data }, { on := 7, ground := Go.Ground.data }], guard := none }
abbrev oF9 : Oper := { dst := some 59, op := Go.Op.build 69 #[(0, Go.Operand.tmp 51), (1, Go.Operand.tmp 58)], type := 69, pos := "l14_disk.go:131", after := #[{ on := 1, ground := Go.Ground.data }, { on := 8, ground := Go.Ground.data }], guard := none }
abbrev oF10 : Oper := { dst := some 60, op := Go.Op.call { callee := Go.Callee.value (Go.Operand.func 74), args := #[Go.Operand.tmp 50, Go.Operand.tmp 59], argTypes := #[31, 69] }, type := 31, pos := "l14_disk.go:131", after := #[{ on := 0, ground := Go.Ground.data }, { on := 9, ground := Go.Ground.data }], guard := none }
abbrev oF11 : Oper := { dst := none, op := Go.Op.store 31 (Go.Operand.tmp 6) (Go.Operand.tmp 60), type := 0, pos := "l14_disk.go:131", after := #[{ on := 10, ground := Go.Ground.data }, { on := 10, ground := Go.Ground.chain }, { on := 0, ground := Go.Ground.phase }, { on := 1, ground := Go.Ground.phase }, { on := 2, ground := Go.Ground.phase }, { on := 3, ground := Go.Ground.phase }, { on := 4, ground := Go.Ground.phase }, { on := 5, ground := Go.Ground.phase }, { on := 6, ground := Go.Ground.phase }, { on := 7, ground := Go.Ground.phase }, { on := 8, ground := Go.Ground.phase }, { on := 9, ground := Go.Ground.phase }, { on := 10, ground := Go.Ground.phase }], guard := none }
abbrev oF12 : Oper := { dst := some 7, op := Go.Op.assign (Go.Operand.const (Go.Value.int Go.IntKind.i64 0)), type := 3, pos := "l14_disk.go:131", after := #[{ on := 11, ground := Go.Ground.chain }, { on := 0, ground := Go.Ground.phase }, { on := 1, ground := Go.Ground.phase }, { on := 2, ground := Go.Ground.phase }, { on := 3, ground := Go.Ground.phase }, { on := 4, ground := Go.Ground.phase }, { on := 5, ground := Go.Ground.phase }, { on := 6, ground := Go.Ground.phase }, { on := 7, ground := Go.Ground.phase }, { on := 8, ground := Go.Ground.phase }, { on := 9, ground := Go.Ground.phase }, { on := 10, ground := Go.Ground.phase }, { on := 11, ground := Go.Ground.phase }], guard := none }
set_option maxRecDepth 100000 in
set_option maxHeartbeats 4000000 in
theorem sDiskCut (w : World) (x : Dx) (nm n : Int) (hr : RdD w x) (hz : sumZ x.ps ≤ 1048576) :
    Calls Try.prog 51 #[.agg #[.int .i64 x.room, .slice x.a x.ps.length x.c], .int .i64 nm, .int .i64 n] w (ToldD (cutD x.room x.ps nm n) w) := by
  have G0 := hide (begunD hr)
  have s2 : ((w.alloc (.cells #[.int .i64 x.room, .slice x.a x.ps.length x.c] 31)).alloc (.cells #[.int .i64 0, .slice none 0 0] 31)).heap.size = w.heap.size + 2 := by simp
  have AT := hide (sAt _ x nm (unhide G0).1.r hz)
  have AI := hide (at_in (room := x.room) (ps := x.ps) (nm := nm))
  have RE := hide (show cutD x.room x.ps nm n = if (atD x.room x.ps nm).2 = 0 then (if 0 ≤ n ∧ n ≤ (bytesAt x.ps (atD x.room x.ps nm).1.toNat).size then ((x.room, putF x.ps (nm, (bytesAt x.ps (atD x.room x.ps nm).1.toNat).extract 0 n.toNat, ByteArray.empty)), 0) else (refD 2 x.room x.ps, 2)) else (refD (atD x.room x.ps nm).2 x.room x.ps, (atD x.room x.ps nm).2) from rfl)
  generalize cutD x.room x.ps nm n = rr at *
  generalize atD x.room x.ps nm = at' at *
  obtain ⟨k0, c⟩ := at'
  clear hr
  go_enter Try.func51, Try.ntmps51
  go_wp2_with fail
  generalize (w.alloc (.cells #[.int .i64 x.room, .slice x.a x.ps.length x.c] 31)).alloc (.cells #[.int .i64 0, .slice none 0 0] 31) = W at *
  refine (unhide AT).mono ?_
  rintro e u ⟨rfl, b1⟩
  have W1 := hide ((unhide G0).1.step b1)
  have R1 := hide ((unhide G0).2.below b1 (by omega))
  have us := b1.size
  clear b1 AT G0
  have c0 := (unhide W1).c0
  have c1 := (unhide W1).c1
  have lt := (unhide W1).lt
  by_cases q : c = 0
  case neg =>
    have E := hide (show rr = (refD c x.room x.ps, c) by rw [unhide RE, if_neg q])
    have qb : (c != 0) = true := by simpa using q
    have qe : (c == 0) = false := by simpa using q
    clear RE AI q
    go_wp2_with fail
    refine wp_region_held_drew (S := (fun _ => True)) (by kernel_rfl) trivial (fun hHeld => ?_)
    refine wpAnyH_take (i := 0) (oi := oE0) (v := .int .i64 c) rfl (by kernel_rfl) (by kernel_rfl) (by kernel_rfl) (fun _ _ _ h => h) (Or.inl ⟨by rfl, fun w hSw => ?_⟩) hHeld ?_
    · (try dsimp only at hSw)
      unfold oE0
      go_simp
    try simp only [oE0, Act.put, List.setIfInBounds_toArray, List.set_cons_zero, List.set_cons_succ]
    refine wpAnyH_take (i := 1) (oi := oE1) (v := .bool false) rfl (by kernel_rfl) (by kernel_rfl) (by kernel_rfl) (fun _ _ _ h => h) (Or.inl ⟨by rfl, fun w hSw => ?_⟩) hHeld ?_
    · (try dsimp only at hSw)
      unfold oE1
      go_simp
    try simp only [oE1, Act.put, List.setIfInBounds_toArray, List.set_cons_zero, List.set_cons_succ]
    refine wpAnyH_take (i := 2) (oi := oE2) (v := .bool false) rfl (by kernel_rfl) (by kernel_rfl) (by kernel_rfl) (fun _ _ _ h => h) (Or.inl ⟨by rfl, fun w hSw => ?_⟩) hHeld ?_
    · (try dsimp only at hSw)
      unfold oE2
      go_simp
    try simp only [oE2, Act.put, List.setIfInBounds_toArray, List.set_cons_zero, List.set_cons_succ]
    refine wpAnyH_take (i := 3) (oi := oE3) (v := undef) rfl (by kernel_rfl) (by kernel_rfl) (by kernel_rfl) (fun _ _ _ h => h) (Or.inr ⟨by rfl, rfl⟩) hHeld ?_
    try simp only [oE3, Act.put, List.setIfInBounds_toArray, List.set_cons_zero, List.set_cons_succ]
    refine wpAnyH_take (i := 4) (oi := oE4) (v := undef) rfl (by kernel_rfl) (by kernel_rfl) (by kernel_rfl) (fun _ _ _ h => h) (Or.inr ⟨by rfl, rfl⟩) hHeld ?_
    try simp only [oE4, Act.put, List.setIfInBounds_toArray, List.set_cons_zero, List.set_cons_succ]
    refine wpAnyH_take (i := 5) (oi := oE5) (v := undef) rfl (by kernel_rfl) (by kernel_rfl) (by kernel_rfl) (fun _ _ _ h => h) (Or.inr ⟨by rfl, rfl⟩) hHeld ?_
    try simp only [oE5, Act.put, List.setIfInBounds_toArray, List.set_cons_zero, List.set_cons_succ]
    refine wpAnyH_take (i := 6) (oi := oE6) (v := undef) rfl (by kernel_rfl) (by kernel_rfl) (by kernel_rfl) (fun _ _ _ h => h) (Or.inr ⟨by rfl, rfl⟩) hHeld ?_
    try simp only [oE6, Act.put, List.setIfInBounds_toArray, List.set_cons_zero, List.set_cons_succ]
    refine wpAnyH_take (i := 7) (oi := oE7) (v := undef) rfl (by kernel_rfl) (by kernel_rfl) (by kernel_rfl) (fun _ _ _ h => h) (Or.inr ⟨by rfl, rfl⟩) hHeld ?_
    try simp only [oE7, Act.put, List.setIfInBounds_toArray, List.set_cons_zero, List.set_cons_succ]
    refine wpAnyH_take (i := 8) (oi := oE8) (v := undef) rfl (by kernel_rfl) (by kernel_rfl) (by kernel_rfl) (fun _ _ _ h => h) (Or.inr ⟨by rfl, rfl⟩) hHeld ?_
    try simp only [oE8, Act.put, List.setIfInBounds_toArray, List.set_cons_zero, List.set_cons_succ]
    refine wpAnyH_take (i := 9) (oi := oE9) (v := undef) rfl (by kernel_rfl) (by kernel_rfl) (by kernel_rfl) (fun _ _ _ h => h) (Or.inr ⟨by rfl, rfl⟩) hHeld ?_
    try simp only [oE9, Act.put, List.setIfInBounds_toArray, List.set_cons_zero, List.set_cons_succ]
    refine wpAnyH_take (i := 10) (oi := oE10) (v := undef) rfl (by kernel_rfl) (by kernel_rfl) (by kernel_rfl) (fun _ _ _ h => h) (Or.inr ⟨by rfl, rfl⟩) hHeld ?_
    try simp only [oE10, Act.put, List.setIfInBounds_toArray, List.set_cons_zero, List.set_cons_succ]
    refine wpAnyH_take (i := 11) (oi := oE11) (v := undef) rfl (by kernel_rfl) (by kernel_rfl) (by kernel_rfl) (fun _ _ _ h => h) (Or.inr ⟨by rfl, rfl⟩) hHeld ?_
    try simp only [oE11, Act.put, List.setIfInBounds_toArray, List.set_cons_zero, List.set_cons_succ]
    refine wpAnyH_take (i := 12) (oi := oE12) (v := undef) rfl (by kernel_rfl) (by kernel_rfl) (by kernel_rfl) (fun _ _ _ h => h) (Or.inr ⟨by rfl, rfl⟩) hHeld ?_
    try simp only [oE12, Act.put, List.setIfInBounds_toArray, List.set_cons_zero, List.set_cons_succ]
    refine wpAnyH_take (i := 13) (oi := oE13) (v := undef) rfl (by kernel_rfl) (by kernel_rfl) (by kernel_rfl) (fun _ _ _ h => h) (Or.inr ⟨by rfl, rfl⟩) hHeld ?_
    try simp only [oE13, Act.put, List.setIfInBounds_toArray, List.set_cons_zero, List.set_cons_succ]
    refine wpAnyH_take (i := 14) (oi := oE14) (v := undef) rfl (by kernel_rfl) (by kernel_rfl) (by kernel_rfl) (fun _ _ _ h => h) (Or.inr ⟨by rfl, rfl⟩) hHeld ?_
    try simp only [oE14, Act.put, List.setIfInBounds_toArray, List.set_cons_zero, List.set_cons_succ]
    refine wpAnyH_take (i := 15) (oi := oE15) (v := undef) rfl (by kernel_rfl) (by kernel_rfl) (by kernel_rfl) (fun _ _ _ h => h) (Or.inr ⟨by rfl, rfl⟩) hHeld ?_
    try simp only [oE15, Act.put, List.setIfInBounds_toArray, List.set_cons_zero, List.set_cons_succ]
    refine wpAnyH_take (i := 16) (oi := oE16) (v := undef) rfl (by kernel_rfl) (by kernel_rfl) (by kernel_rfl) (fun _ _ _ h => h) (Or.inr ⟨by rfl, rfl⟩) hHeld ?_
    try simp only [oE16, Act.put, List.setIfInBounds_toArray, List.set_cons_zero, List.set_cons_succ]
    refine wpAnyH_take (i := 17) (oi := oE17) (v := undef) rfl (by kernel_rfl) (by kernel_rfl) (by kernel_rfl) (fun _ _ _ h => h) (Or.inr ⟨by rfl, rfl⟩) hHeld ?_
    try simp only [oE17, Act.put, List.setIfInBounds_toArray, List.set_cons_zero, List.set_cons_succ]
    refine wpAnyH_take (i := 18) (oi := oE18) (v := undef) rfl (by kernel_rfl) (by kernel_rfl) (by kernel_rfl) (fun _ _ _ h => h) (Or.inr ⟨by rfl, rfl⟩) hHeld ?_
    try simp only [oE18, Act.put, List.setIfInBounds_toArray, List.set_cons_zero, List.set_cons_succ]
    refine wpAnyH_take (i := 19) (oi := oE19) (v := undef) rfl (by kernel_rfl) (by kernel_rfl) (by kernel_rfl) (fun _ _ _ h => h) (Or.inr ⟨by rfl, rfl⟩) hHeld ?_
    try simp only [oE19, Act.put, List.setIfInBounds_toArray, List.set_cons_zero, List.set_cons_succ]
    refine wpAnyH_take (i := 20) (oi := oE20) (v := undef) rfl (by kernel_rfl) (by kernel_rfl) (by kernel_rfl) (fun _ _ _ h => h) (Or.inr ⟨by rfl, rfl⟩) hHeld ?_
    try simp only [oE20, Act.put, List.setIfInBounds_toArray, List.set_cons_zero, List.set_cons_succ]
    refine wpAnyH_take (i := 21) (oi := oE21) (v := .bool false) rfl (by kernel_rfl) (by kernel_rfl) (by kernel_rfl) (fun _ _ _ h => h) (Or.inl ⟨by rfl, fun w hSw => ?_⟩) hHeld ?_
    · (try dsimp only at hSw)
      unfold oE21
      go_simp
    try simp only [oE21, Act.put, List.setIfInBounds_toArray, List.set_cons_zero, List.set_cons_succ]
    refine wpAnyH_done (by kernel_rfl) ?_ _
    have W1 := hide ((unhide W1).drew)
    have R1 := hide (show Bc u.drew w.heap.size (w.heap.size + 1) (.int .i64 0) (.slice none 0 0) from unhide R1)
    have c0 := (unhide W1).c0
    have c1 := (unhide W1).c1
    have lt := (unhide W1).lt
    go_wp2_with fail
    refine (sRefused _ x (c) (unhide W1).r).mono ?_
    rintro e u2 ⟨y, hy, rfl, oy, b2⟩
    have R2 := hide ((unhide R1).below b2 (unhide R1).lt.2)
    have EN := hide (endedD ((unhide W1).b.trans (b2.mono (unhide W1).b.size)) (unhide R2) oy (unhide R1).lt.2)
    have HY := hide hy
    have f0 := (unhide R2).free 0
    have f1 := (unhide R2).free 1
    have r0 := (unhide R2).c0
    have r1 := (unhide R2).c1
    clear b2 oy hy c0 c1 lt W1 R1
    go_wp2
    refine bodyPost_ret (v := .tuple #[.agg #[.int .i64 y.room, .slice y.a y.ps.length y.c], .int .i64 (c)]) (by simp [results, Try.results51, go_sem, r0, r1]) rfl ?_
    rw [unhide E]
    exact ⟨y, unhide HY, rfl, (unhide EN).1, (unhide EN).2⟩
  subst q
  obtain ⟨ok, okn, k, rfl, kl, en⟩ := (unhide AI) rfl
  have RE2 := hide (show rr = if 0 ≤ n ∧ n ≤ (bytesAt x.ps k).size then ((x.room, putF x.ps (nm, (bytesAt x.ps k).extract 0 n.toNat, ByteArray.empty)), 0) else (refD 2 x.room x.ps, 2) by rw [unhide RE, if_pos rfl]; rfl)
  have h22 := ok.2.1
  have kt : (k : Int) < x.ps.length := by omega
  obtain ⟨g, ea, lg, d0, d1, d2⟩ := cells_of (unhide W1).r kl
  have ix := ixF x.c ea kl
  have ES := hide (show bytesAt x.ps k = (elF x.ps k).2.1 ++ (elF x.ps k).2.2 from rfl)
  have NX := sumZ_next kl
  have LE := sumZ_le x.ps (k + 1)
  have s1 : (elF x.ps k).2.1.size + (elF x.ps k).2.2.size ≤ 1048576 := by omega
  clear RE AI ok okn en ea NX LE
  generalize bytesAt x.ps k = bt at *
  generalize (elF x.ps k).1 = z0 at *
  generalize (elF x.ps k).2.1 = z1 at *
  generalize (elF x.ps k).2.2 = z2 at *
  have bz : bt.size = z1.size + z2.size := by rw [unhide ES]; simp
  have RE3 := hide (show rr = if 0 ≤ n ∧ n ≤ ((z1.size : Int) + z2.size) then ((x.room, putF x.ps (nm, (z1 ++ z2).extract 0 n.toNat, ByteArray.empty)), 0) else (refD 2 x.room x.ps, 2) by rw [unhide RE2, bz, unhide ES]; simp)
  clear RE2 bz ES bt
  have wr1 : wrap64 ((z1.size : Int) + z2.size) = (z1.size : Int) + z2.size := by rw [wrap64]; omega
  have wr2 : IntKind.i64.wrap ((z1.size : Int) + z2.size) = (z1.size : Int) + z2.size := by rw [IntKind.wrap_i64]; omega
  obtain ⟨bb, hbb⟩ : ∃ bb, decide (0 ≤ n ∧ n ≤ ((z1.size : Int) + z2.size)) = bb := ⟨_, rfl⟩
  have HBB := hide hbb
  clear hbb
  have K0 : u.cell? ⟨w.heap.size, 1, none⟩ = some (.slice x.a x.ps.length x.c) ∧ u.cell? ⟨g, k * 3 + 1, none⟩ = some (.string z1) ∧ u.cell? ⟨g, k * 3 + 2, none⟩ = some (.string z2) := ⟨c1, d1, d2⟩
  go_wp2_with fail
  refine wp_region_held_drew (S := (fun w' => w'.cell? ⟨w.heap.size, 1, none⟩ = some (.slice x.a x.ps.length x.c) ∧ w'.cell? ⟨g, k * 3 + 1, none⟩ = some (.string z1) ∧ w'.cell? ⟨g, k * 3 + 2, none⟩ = some (.string z2))) (by kernel_rfl) K0 (fun hHeld => ?_)
  refine wpAnyH_take (i := 0) (oi := oE0) (v := .int .i64 0) rfl (by kernel_rfl) (by kernel_rfl) (by kernel_rfl) (fun _ _ _ h => h) (Or.inl ⟨by rfl, fun w hSw => ?_⟩) hHeld ?_
  · (try dsimp only at hSw)
    unfold oE0
    go_simp
  try simp only [oE0, Act.put, List.setIfInBounds_toArray, List.set_cons_zero, List.set_cons_succ]
  refine wpAnyH_take (i := 1) (oi := oE1) (v := .bool true) rfl (by kernel_rfl) (by kernel_rfl) (by kernel_rfl) (fun _ _ _ h => h) (Or.inl ⟨by rfl, fun w hSw => ?_⟩) hHeld ?_
  · (try dsimp only at hSw)
    unfold oE1
    go_simp
  try simp only [oE1, Act.put, List.setIfInBounds_toArray, List.set_cons_zero, List.set_cons_succ]
  refine wpAnyH_take (i := 2) (oi := oE2) (v := .bool true) rfl (by kernel_rfl) (by kernel_rfl) (by kernel_rfl) (fun _ _ _ h => h) (Or.inl ⟨by rfl, fun w hSw => ?_⟩) hHeld ?_
  · (try dsimp only at hSw)
    unfold oE2
    go_simp
  try simp only [oE2, Act.put, List.setIfInBounds_toArray, List.set_cons_zero, List.set_cons_succ]
  refine wpAnyH_take (i := 3) (oi := oE3) (v := .int .i64 n) rfl (by kernel_rfl) (by kernel_rfl) (by kernel_rfl) (fun _ _ _ h => h) (Or.inl ⟨by rfl, fun w hSw => ?_⟩) hHeld ?_
  · (try dsimp only at hSw)
    unfold oE3
    go_simp
  try simp only [oE3, Act.put, List.setIfInBounds_toArray, List.set_cons_zero, List.set_cons_succ]
  refine wpAnyH_take (i := 4) (oi := oE4) (v := .pointer (some ⟨w.heap.size, 1, none⟩)) rfl (by kernel_rfl) (by kernel_rfl) (by kernel_rfl) (fun _ _ _ h => h) (Or.inl ⟨by rfl, fun w hSw => ?_⟩) hHeld ?_
  · (try dsimp only at hSw)
    unfold oE4
    go_simp
  try simp only [oE4, Act.put, List.setIfInBounds_toArray, List.set_cons_zero, List.set_cons_succ]
  refine wpAnyH_take (i := 5) (oi := oE5) (v := .slice x.a x.ps.length x.c) rfl (by kernel_rfl) (by kernel_rfl) (by kernel_rfl) (fun _ _ _ h => h) (Or.inl ⟨by rfl, fun w hSw => ?_⟩) hHeld ?_
  · (try dsimp only at hSw)
    unfold oE5
    go_simp
  try simp only [oE5, Act.put, List.setIfInBounds_toArray, List.set_cons_zero, List.set_cons_succ]
  refine wpAnyH_take (i := 6) (oi := oE6) (v := .int .i64 k) rfl (by kernel_rfl) (by kernel_rfl) (by kernel_rfl) (fun _ _ _ h => h) (Or.inl ⟨by rfl, fun w hSw => ?_⟩) hHeld ?_
  · (try dsimp only at hSw)
    unfold oE6
    go_simp
  try simp only [oE6, Act.put, List.setIfInBounds_toArray, List.set_cons_zero, List.set_cons_succ]
  refine wpAnyH_take (i := 7) (oi := oE7) (v := .pointer (some ⟨g, k * 3, none⟩)) rfl (by kernel_rfl) (by kernel_rfl) (by kernel_rfl) (fun _ _ _ h => h) (Or.inl ⟨by rfl, fun w hSw => ?_⟩) hHeld ?_
  · (try dsimp only at hSw)
    unfold oE7
    go_simp
  try simp only [oE7, Act.put, List.setIfInBounds_toArray, List.set_cons_zero, List.set_cons_succ]
  refine wpAnyH_take (i := 8) (oi := oE8) (v := .pointer (some ⟨g, k * 3 + 1, none⟩)) rfl (by kernel_rfl) (by kernel_rfl) (by kernel_rfl) (fun _ _ _ h => h) (Or.inl ⟨by rfl, fun w hSw => ?_⟩) hHeld ?_
  · (try dsimp only at hSw)
    unfold oE8
    go_simp
  try simp only [oE8, Act.put, List.setIfInBounds_toArray, List.set_cons_zero, List.set_cons_succ]
  refine wpAnyH_take (i := 9) (oi := oE9) (v := .string z1) rfl (by kernel_rfl) (by kernel_rfl) (by kernel_rfl) (fun _ _ _ h => h) (Or.inl ⟨by rfl, fun w hSw => ?_⟩) hHeld ?_
  · (try dsimp only at hSw)
    unfold oE9
    go_simp
  try simp only [oE9, Act.put, List.setIfInBounds_toArray, List.set_cons_zero, List.set_cons_succ]
  refine wpAnyH_take (i := 10) (oi := oE10) (v := .int .i64 z1.size) rfl (by kernel_rfl) (by kernel_rfl) (by kernel_rfl) (fun _ _ _ h => h) (Or.inl ⟨by rfl, fun w hSw => ?_⟩) hHeld ?_
  · (try dsimp only at hSw)
    unfold oE10
    go_simp
  try simp only [oE10, Act.put, List.setIfInBounds_toArray, List.set_cons_zero, List.set_cons_succ]
  refine wpAnyH_take (i := 11) (oi := oE11) (v := .pointer (some ⟨w.heap.size, 1, none⟩)) rfl (by kernel_rfl) (by kernel_rfl) (by kernel_rfl) (fun _ _ _ h => h) (Or.inl ⟨by rfl, fun w hSw => ?_⟩) hHeld ?_
  · (try dsimp only at hSw)
    unfold oE11
    go_simp
  try simp only [oE11, Act.put, List.setIfInBounds_toArray, List.set_cons_zero, List.set_cons_succ]
  refine wpAnyH_take (i := 12) (oi := oE12) (v := .slice x.a x.ps.length x.c) rfl (by kernel_rfl) (by kernel_rfl) (by kernel_rfl) (fun _ _ _ h => h) (Or.inl ⟨by rfl, fun w hSw => ?_⟩) hHeld ?_
  · (try dsimp only at hSw)
    unfold oE12
    go_simp
  try simp only [oE12, Act.put, List.setIfInBounds_toArray, List.set_cons_zero, List.set_cons_succ]
  refine wpAnyH_take (i := 13) (oi := oE13) (v := .int .i64 k) rfl (by kernel_rfl) (by kernel_rfl) (by kernel_rfl) (fun _ _ _ h => h) (Or.inl ⟨by rfl, fun w hSw => ?_⟩) hHeld ?_
  · (try dsimp only at hSw)
    unfold oE13
    go_simp
  try simp only [oE13, Act.put, List.setIfInBounds_toArray, List.set_cons_zero, List.set_cons_succ]
  refine wpAnyH_take (i := 14) (oi := oE14) (v := .pointer (some ⟨g, k * 3, none⟩)) rfl (by kernel_rfl) (by kernel_rfl) (by kernel_rfl) (fun _ _ _ h => h) (Or.inl ⟨by rfl, fun w hSw => ?_⟩) hHeld ?_
  · (try dsimp only at hSw)
    unfold oE14
    go_simp
  try simp only [oE14, Act.put, List.setIfInBounds_toArray, List.set_cons_zero, List.set_cons_succ]
  refine wpAnyH_take (i := 15) (oi := oE15) (v := .pointer (some ⟨g, k * 3 + 2, none⟩)) rfl (by kernel_rfl) (by kernel_rfl) (by kernel_rfl) (fun _ _ _ h => h) (Or.inl ⟨by rfl, fun w hSw => ?_⟩) hHeld ?_
  · (try dsimp only at hSw)
    unfold oE15
    go_simp
  try simp only [oE15, Act.put, List.setIfInBounds_toArray, List.set_cons_zero, List.set_cons_succ]
  refine wpAnyH_take (i := 16) (oi := oE16) (v := .string z2) rfl (by kernel_rfl) (by kernel_rfl) (by kernel_rfl) (fun _ _ _ h => h) (Or.inl ⟨by rfl, fun w hSw => ?_⟩) hHeld ?_
  · (try dsimp only at hSw)
    unfold oE16
    go_simp
  try simp only [oE16, Act.put, List.setIfInBounds_toArray, List.set_cons_zero, List.set_cons_succ]
  refine wpAnyH_take (i := 17) (oi := oE17) (v := .int .i64 z2.size) rfl (by kernel_rfl) (by kernel_rfl) (by kernel_rfl) (fun _ _ _ h => h) (Or.inl ⟨by rfl, fun w hSw => ?_⟩) hHeld ?_
  · (try dsimp only at hSw)
    unfold oE17
    go_simp
  try simp only [oE17, Act.put, List.setIfInBounds_toArray, List.set_cons_zero, List.set_cons_succ]
  refine wpAnyH_take (i := 18) (oi := oE18) (v := .int .i64 ((z1.size : Int) + z2.size)) rfl (by kernel_rfl) (by kernel_rfl) (by kernel_rfl) (fun _ _ _ h => h) (Or.inl ⟨by rfl, fun w hSw => ?_⟩) hHeld ?_
  · (try dsimp only at hSw)
    unfold oE18
    go_simp
  try simp only [oE18, Act.put, List.setIfInBounds_toArray, List.set_cons_zero, List.set_cons_succ]
  refine wpAnyH_ready (rs := [19]) (by kernel_rfl) (by simp) ?_
  refine AllReadyH.cons (o := oE19) rfl (fun K hK => ?_) AllReadyH.nil
  unfold oE19
  go_simp
  go_wp2_with fail
  refine (sInB _ n 0 ((z1.size : Int) + z2.size) bb (unhide HBB)).mono ?_
  rintro e v1 ⟨rfl, rfl⟩
  go_wp2_with fail
  refine hK.out _ _ K0 (fun hHeld => ?_)
  clear hK K
  try simp only [oE19, Act.put, List.setIfInBounds_toArray, List.set_cons_zero, List.set_cons_succ]
  refine wpAnyH_take (i := 20) (oi := oE20) (v := .bool (!bb)) rfl (by kernel_rfl) (by kernel_rfl) (by kernel_rfl) (fun _ _ _ h => h) (Or.inl ⟨by rfl, fun w hSw => ?_⟩) hHeld ?_
  · (try dsimp only at hSw)
    unfold oE20
    go_simp
  try simp only [oE20, Act.put, List.setIfInBounds_toArray, List.set_cons_zero, List.set_cons_succ]
  refine wpAnyH_take (i := 21) (oi := oE21) (v := .bool (!bb)) rfl (by kernel_rfl) (by kernel_rfl) (by kernel_rfl) (fun _ _ _ h => h) (Or.inl ⟨by rfl, fun w hSw => ?_⟩) hHeld ?_
  · (try dsimp only at hSw)
    unfold oE21
    go_simp
  try simp only [oE21, Act.put, List.setIfInBounds_toArray, List.set_cons_zero, List.set_cons_succ]
  refine wpAnyH_done (by kernel_rfl) ?_ _
  have W4 := hide ((unhide W1).drew)
  have R4 := hide (show Bc u.drew w.heap.size (w.heap.size + 1) (.int .i64 0) (.slice none 0 0) from unhide R1)
  have d0' : u.drew.cell? ⟨g, k * 3, none⟩ = some (.int .i64 z0) := d0
  have d1' : u.drew.cell? ⟨g, k * 3 + 1, none⟩ = some (.string z1) := d1
  have d2' : u.drew.cell? ⟨g, k * 3 + 2, none⟩ = some (.string z2) := d2
  clear K0 c0 c1 lt d0 d1 d2 wr1 wr2
  have us2 : u.heap.size = u.drew.heap.size := rfl
  generalize u.drew = v at *
  have W1 := W4
  have R1 := R4
  have c0 := (unhide W1).c0
  have c1 := (unhide W1).c1
  have lt := (unhide W1).lt
  clear W4 R4 us2
  cases bb with
  | false =>
    have E := hide (show rr = (refD 2 x.room x.ps, 2) by rw [unhide RE3, if_neg (by have := unhide HBB; simpa using this)])
    go_wp2_with fail
    refine (sRefused _ x (2) (unhide W1).r).mono ?_
    rintro e u2 ⟨y, hy, rfl, oy, b2⟩
    have R2 := hide ((unhide R1).below b2 (unhide R1).lt.2)
    have EN := hide (endedD ((unhide W1).b.trans (b2.mono (unhide W1).b.size)) (unhide R2) oy (unhide R1).lt.2)
    have HY := hide hy
    have f0 := (unhide R2).free 0
    have f1 := (unhide R2).free 1
    have r0 := (unhide R2).c0
    have r1 := (unhide R2).c1
    clear b2 oy hy c0 c1 lt W1 R1
    go_wp2
    refine bodyPost_ret (v := .tuple #[.agg #[.int .i64 y.room, .slice y.a y.ps.length y.c], .int .i64 (2)]) (by simp [results, Try.results51, go_sem, r0, r1]) rfl ?_
    rw [unhide E]
    exact ⟨y, unhide HY, rfl, (unhide EN).1, (unhide EN).2⟩
  | true =>
    have hn : 0 ≤ n ∧ n ≤ ((z1.size : Int) + z2.size) := by have := unhide HBB; simpa using this
    have E := hide (show rr = ((x.room, putF x.ps (nm, (z1 ++ z2).extract 0 n.toNat, ByteArray.empty)), 0) by rw [unhide RE3, if_pos hn])
    obtain ⟨n0, n1⟩ := hn
    have nz : n ≤ ((z1 ++ z2).size : Int) := by simp; omega
    have s3 : z1.size + z2.size ≤ 9223372036854775807 := by omega
    obtain ⟨V, hV⟩ : ∃ V, Hid (V = v.alloc (.cells #[.int .i64 z0, .string z1, .string z2] 69)) := ⟨_, rfl⟩
    have W3 := hide (show Wd w V x by rw [unhide hV]; exact (unhide W1).step (one_more _ _))
    have R3 := hide (show Bc V w.heap.size (w.heap.size + 1) (.int .i64 0) (.slice none 0 0) by rw [unhide hV]; exact (unhide R1).below (one_more _ _) (unhide R1).lt.2)
    have fb : V.cell? ⟨v.heap.size, 1, none⟩ = some (.string z1) ∧ V.cell? ⟨v.heap.size, 2, none⟩ = some (.string z2) := by rw [unhide hV]; simp
    have vs : v.heap.size < V.heap.size := by rw [unhide hV]; simp
    go_wp2_with fail
    rw [← unhide hV]
    clear hV c0 c1
    obtain ⟨b1, b2⟩ := fb
    have c0 := (unhide W3).c0
    have c1 := (unhide W3).c1
    have v1 := (unhide R1).lt
    have K0 : V.cell? ⟨w.heap.size, 0, none⟩ = some (.int .i64 x.room) ∧ V.cell? ⟨w.heap.size, 1, none⟩ = some (.slice x.a x.ps.length x.c) ∧ V.cell? ⟨v.heap.size, 1, none⟩ = some (.string z1) ∧ V.cell? ⟨v.heap.size, 2, none⟩ = some (.string z2) := ⟨c0, c1, b1, b2⟩
    refine wp_region_held_drew (S := (fun w' => w'.cell? ⟨w.heap.size, 0, none⟩ = some (.int .i64 x.room) ∧ w'.cell? ⟨w.heap.size, 1, none⟩ = some (.slice x.a x.ps.length x.c) ∧ w'.cell? ⟨v.heap.size, 1, none⟩ = some (.string z1) ∧ w'.cell? ⟨v.heap.size, 2, none⟩ = some (.string z2))) (by kernel_rfl) K0 (fun hHeld => ?_)
    refine wpAnyH_take (i := 0) (oi := oF0) (v := .agg #[.int .i64 x.room, .slice x.a x.ps.length x.c]) rfl (by kernel_rfl) (by kernel_rfl) (by kernel_rfl) (fun _ _ _ h => h) (Or.inl ⟨by rfl, fun w hSw => ?_⟩) hHeld ?_
    · (try dsimp only at hSw)
      unfold oF0
      go_simp
    try simp only [oF0, Act.put, List.setIfInBounds_toArray, List.set_cons_zero, List.set_cons_succ]
    refine wpAnyH_take (i := 1) (oi := oF1) (v := .int .i64 nm) rfl (by kernel_rfl) (by kernel_rfl) (by kernel_rfl) (fun _ _ _ h => h) (Or.inl ⟨by rfl, fun w hSw => ?_⟩) hHeld ?_
    · (try dsimp only at hSw)
      unfold oF1
      go_simp
    try simp only [oF1, Act.put, List.setIfInBounds_toArray, List.set_cons_zero, List.set_cons_succ]
    refine wpAnyH_take (i := 2) (oi := oF2) (v := .pointer (some ⟨v.heap.size, 1, none⟩)) rfl (by kernel_rfl) (by kernel_rfl) (by kernel_rfl) (fun _ _ _ h => h) (Or.inl ⟨by rfl, fun w hSw => ?_⟩) hHeld ?_
    · (try dsimp only at hSw)
      unfold oF2
      go_simp
    try simp only [oF2, Act.put, List.setIfInBounds_toArray, List.set_cons_zero, List.set_cons_succ]
    refine wpAnyH_take (i := 3) (oi := oF3) (v := .string z1) rfl (by kernel_rfl) (by kernel_rfl) (by kernel_rfl) (fun _ _ _ h => h) (Or.inl ⟨by rfl, fun w hSw => ?_⟩) hHeld ?_
    · (try dsimp only at hSw)
      unfold oF3
      go_simp
    try simp only [oF3, Act.put, List.setIfInBounds_toArray, List.set_cons_zero, List.set_cons_succ]
    refine wpAnyH_take (i := 4) (oi := oF4) (v := .pointer (some ⟨v.heap.size, 2, none⟩)) rfl (by kernel_rfl) (by kernel_rfl) (by kernel_rfl) (fun _ _ _ h => h) (Or.inl ⟨by rfl, fun w hSw => ?_⟩) hHeld ?_
    · (try dsimp only at hSw)
      unfold oF4
      go_simp
    try simp only [oF4, Act.put, List.setIfInBounds_toArray, List.set_cons_zero, List.set_cons_succ]
    refine wpAnyH_take (i := 5) (oi := oF5) (v := .string z2) rfl (by kernel_rfl) (by kernel_rfl) (by kernel_rfl) (fun _ _ _ h => h) (Or.inl ⟨by rfl, fun w hSw => ?_⟩) hHeld ?_
    · (try dsimp only at hSw)
      unfold oF5
      go_simp
    try simp only [oF5, Act.put, List.setIfInBounds_toArray, List.set_cons_zero, List.set_cons_succ]
    refine wpAnyH_take (i := 6) (oi := oF6) (v := .string (z1 ++ z2)) rfl (by kernel_rfl) (by kernel_rfl) (by kernel_rfl) (fun _ _ _ h => h) (Or.inl ⟨by rfl, fun w hSw => ?_⟩) hHeld ?_
    · (try dsimp only at hSw)
      unfold oF6
      go_simp
    try simp only [oF6, Act.put, List.setIfInBounds_toArray, List.set_cons_zero, List.set_cons_succ]
    refine wpAnyH_take (i := 7) (oi := oF7) (v := .int .i64 n) rfl (by kernel_rfl) (by kernel_rfl) (by kernel_rfl) (fun _ _ _ h => h) (Or.inl ⟨by rfl, fun w hSw => ?_⟩) hHeld ?_
    · (try dsimp only at hSw)
      unfold oF7
      go_simp
    try simp only [oF7, Act.put, List.setIfInBounds_toArray, List.set_cons_zero, List.set_cons_succ]
    refine wpAnyH_take (i := 8) (oi := oF8) (v := .string ((z1 ++ z2).extract 0 n.toNat)) rfl (by kernel_rfl) (by kernel_rfl) (by kernel_rfl) (fun _ _ _ h => h) (Or.inl ⟨by rfl, fun w hSw => ?_⟩) hHeld ?_
    · (try dsimp only at hSw)
      unfold oF8
      go_simp
    try simp only [oF8, Act.put, List.setIfInBounds_toArray, List.set_cons_zero, List.set_cons_succ]
    refine wpAnyH_take (i := 9) (oi := oF9) (v := .agg #[.int .i64 nm, .string ((z1 ++ z2).extract 0 n.toNat), .string ⟨#[]⟩]) rfl (by kernel_rfl) (by kernel_rfl) (by kernel_rfl) (fun _ _ _ h => h) (Or.inl ⟨by rfl, fun w hSw => ?_⟩) hHeld ?_
    · (try dsimp only at hSw)
      unfold oF9
      go_simp
    try simp only [oF9, Act.put, List.setIfInBounds_toArray, List.set_cons_zero, List.set_cons_succ]
    refine wpAnyH_ready (rs := [10]) (by kernel_rfl) (by simp) ?_
    refine AllReadyH.cons (o := oF10) rfl (fun K hK => ?_) AllReadyH.nil
    unfold oF10
    go_simp
    go_wp2_with fail
    refine (sPut V.drew x nm ((z1 ++ z2).extract 0 n.toNat) ⟨#[]⟩ (unhide W3).drew.r h22).mono ?_
    rintro e v2 ⟨y2, yr2, yp2, rfl, oy2, bbb⟩
    have bb2 : Below V.heap.size V v2 := ⟨bbb.os, bbb.tape, bbb.output, bbb.size, bbb.block⟩
    have W5 := hide ((unhide W3).step bb2)
    have R5 := hide ((unhide R3).below bb2 (unhide R3).lt.2)
    have vs2 := bb2.size
    have K2 : v2.cell? ⟨w.heap.size, 0, none⟩ = some (.int .i64 x.room) ∧ v2.cell? ⟨w.heap.size, 1, none⟩ = some (.slice x.a x.ps.length x.c) ∧ v2.cell? ⟨v.heap.size, 1, none⟩ = some (.string z1) ∧ v2.cell? ⟨v.heap.size, 2, none⟩ = some (.string z2) := ⟨(unhide W5).c0, (unhide W5).c1, (bb2.cell (p := ⟨v.heap.size, 1, none⟩) vs).trans b1, (bb2.cell (p := ⟨v.heap.size, 2, none⟩) vs).trans b2⟩
    have EN := hide (endedD (unhide W5).b (unhide R5) oy2 (show w.heap.size + 1 < V.drew.heap.size from (unhide R3).lt.2))
    have HY2 := hide (show (y2.room, y2.ps) = (x.room, putF x.ps (nm, (z1 ++ z2).extract 0 n.toNat, ByteArray.empty)) by rw [yr2, yp2]; rfl)
    have f0 := (unhide R5).free 0
    have f1 := (unhide R5).free 1
    have r0 := (unhide R5).c0
    have r1 := (unhide R5).c1
    have wl := (unhide W5).lt
    have st := grow_grow ((unhide R5).set0 (.int .i64 y2.room)).2 (bc_set1 ((unhide R5).set0 (.int .i64 y2.room)).1 (.slice y2.a y2.ps.length y2.c)).2
    have K3 : ((v2.setCell ⟨w.heap.size + 1, 0, none⟩ (.int .i64 y2.room)).setCell ⟨w.heap.size + 1, 1, none⟩ (.slice y2.a y2.ps.length y2.c)).cell? ⟨w.heap.size, 0, none⟩ = some (.int .i64 x.room) ∧ ((v2.setCell ⟨w.heap.size + 1, 0, none⟩ (.int .i64 y2.room)).setCell ⟨w.heap.size + 1, 1, none⟩ (.slice y2.a y2.ps.length y2.c)).cell? ⟨w.heap.size, 1, none⟩ = some (.slice x.a x.ps.length x.c) ∧ ((v2.setCell ⟨w.heap.size + 1, 0, none⟩ (.int .i64 y2.room)).setCell ⟨w.heap.size + 1, 1, none⟩ (.slice y2.a y2.ps.length y2.c)).cell? ⟨v.heap.size, 1, none⟩ = some (.string z1) ∧ ((v2.setCell ⟨w.heap.size + 1, 0, none⟩ (.int .i64 y2.room)).setCell ⟨w.heap.size + 1, 1, none⟩ (.slice y2.a y2.ps.length y2.c)).cell? ⟨v.heap.size, 2, none⟩ = some (.string z2) := ⟨(kcell st 0 wl (by omega)).trans K2.1, (kcell st 1 wl (by omega)).trans K2.2.1, (kcell st 1 (g := v.heap.size) (by omega) (by omega)).trans K2.2.2.1, (kcell st 2 (g := v.heap.size) (by omega) (by omega)).trans K2.2.2.2⟩
    clear bb2 bbb oy2 yr2 yp2
    go_wp2_with fail
    refine hK.out _ _ K2 (fun hHeld => ?_)
    clear hK K
    try simp only [oF10, Act.put, List.setIfInBounds_toArray, List.set_cons_zero, List.set_cons_succ]
    refine wpAnyH_ready (rs := [11]) (by kernel_rfl) (by simp) ?_
    refine AllReadyH.cons (o := oF11) rfl (fun K hK => ?_) AllReadyH.nil
    unfold oF11
    go_simp
    refine hK.out _ _ K3 (fun hHeld => ?_)
    clear hK K
    try simp only [oF11, Act.put, List.setIfInBounds_toArray, List.set_cons_zero, List.set_cons_succ]
    refine wpAnyH_take (i := 12) (oi := oF12) (v := .int .i64 0) rfl (by kernel_rfl) (by kernel_rfl) (by kernel_rfl) (fun _ _ _ h => h) (Or.inl ⟨by rfl, fun w hSw => ?_⟩) hHeld ?_
    · (try dsimp only at hSw)
      unfold oF12
      go_simp
    try simp only [oF12, Act.put, List.setIfInBounds_toArray, List.set_cons_zero, List.set_cons_succ]
    refine wpAnyH_done (by kernel_rfl) ?_ _
    clear K0 K2 K3 st
    go_wp2
    refine bodyPost_ret (v := .tuple #[.agg #[.int .i64 y2.room, .slice y2.a y2.ps.length y2.c], .int .i64 0]) (by simp [results, Try.results51, go_sem, r0, r1]) rfl ?_
    rw [unhide E]
    exact ⟨y2, unhide HY2, rfl, (unhide EN).1, (unhide EN).2⟩
end Go.Proofs.Yticofefdbjihiaa.SCut14
namespace Go.Proofs.Yticofefdbjihiaa.Ok14
open Fil14 DiskH14 SDk14 SOk14 SRd14 SLess14 SRef14 SCom14 SPut14 Pure14 SAppend14 SSync14 SCut14
/-- A file put in the place of one of its name. -/
theorem ok_put {room : Int} {ps : List TF} {f : TF} {k : Nat} (h : OkD room ps) (hk : k < ps.length) (hf : f.1 = (elF ps k).1) (hs : (sumZ ps : Int) - ((elF ps k).2.1.size + (elF ps k).2.2.size) + (f.2.1.size + f.2.2.size) ≤ room) : OkD room (putF ps f) := by
  obtain ⟨ha, hn⟩ := asc_of h
  have s1 := sum_rest ha hk
  have s2 := sum_put f ha
  rw [hf] at s2
  refine okd_of h.1 (by omega) (put_asc f ha) (put_named ha hn ?_)
  rw [hf]
  exact hn _ (elF_mem hk)
/-- A new file. -/
theorem ok_new {room : Int} {ps : List TF} {f : TF} (h : OkD room ps) (hn' : 0 ≤ f.1 ∧ f.1 ≤ 21) (hf : ∀ p ∈ ps, p.1 ≠ f.1) (hs : (sumZ ps : Int) + (f.2.1.size + f.2.2.size) ≤ room) : OkD room (putF ps f) := by
  obtain ⟨ha, hn⟩ := asc_of h
  have s1 := sum_new ha hf
  have s2 := sum_put f ha
  exact okd_of h.1 (by omega) (put_asc f ha) (put_named ha hn hn')
theorem ok_append {room : Int} {ps : List TF} {nm : Int} {s : ByteArray} (h : OkD room ps) (hn : okN nm = true) (hs : (s.size : Int) ≤ room - sumZ ps) : OkD room (putF ps (appF ps nm s)) := by
  by_cases q : 0 ≤ findF ps nm
  · obtain ⟨k, e, l, m⟩ := findF_in q
    have ef : appF ps nm s = ((elF ps k).1, (elF ps k).2.1, (elF ps k).2.2 ++ s) := by unfold appF; rw [if_pos q, e]; rfl
    refine ok_put h l (by rw [ef]) ?_
    rw [ef]
    simp only [ByteArray.size_append]
    omega
  · have ef : appF ps nm s = (nm, ⟨#[]⟩, s) := by unfold appF; rw [if_neg q]
    refine ok_new h (by rw [ef]; exact ok_named.1 hn) (fun p hp => ?_) ?_
    · rw [ef]
      exact find_neg (nm := nm) (by omega) p hp
    · rw [ef]
      have : (⟨#[]⟩ : ByteArray).size = 0 := rfl
      simp only [this]
      omega
end Go.Proofs.Yticofefdbjihiaa.Ok14
namespace Go.Proofs.Yticofefdbjihiaa.SAdd15
open Go.ChangeShapes Go.WideShapes Go.ChangeAt Go.RowKit Fil14 OpensF14 DiskH14 DkH14 SDk14 SOk14 SRd14 SCom14 SAppend14 SSync14 Conv15 SegP15 SSeg15 SLate15
/-- What SegAdd answers. -/
noncomputable def addD (room : Int) (ps : List TF) (seg : Int) (s : ByteArray) : (Int × List TF) × Int := if (lateD room ps seg s).2 = 0 then syncD (lateD room ps seg s).1.1 (lateD room ps seg s).1.2 seg else lateD room ps seg s
/-- What is told when it is done is a disk as it should be. -/
theorem ok_late {room : Int} {ps : List TF} {seg : Int} {s : ByteArray} (h : (lateD room ps seg s).2 = 0) : OkD (lateD room ps seg s).1.1 (lateD room ps seg s).1.2 := by
  unfold lateD at h ⊢
  split at h
  · rename_i q
    rw [if_pos q]
    unfold appendD at h ⊢
    by_cases ok : OkD room ps ∧ okN seg = true
    · rw [if_pos ok] at h ⊢
      by_cases f : room - sumZ ps < (sealT s).size
      · rw [if_pos f] at h
        simp at h
      · rw [if_neg f]
        exact Ok14.ok_append (room := room) ok.1 ok.2 (by omega)
    · rw [if_neg ok] at h
      simp at h
  · simp at h
set_option maxRecDepth 100000 in
set_option maxHeartbeats 4000000 in
theorem sSegAdd (w : World) (x : Dx) (seg : Int) (s : ByteArray) (hr : RdD w x) (hz : sumZ x.ps ≤ 1048576) (hs : s.size ≤ 1048576) :
    Calls Try.prog 18 #[.agg #[.int .i64 x.room, .slice x.a x.ps.length x.c], .int .i64 seg, .string s] w (ToldD (addD x.room x.ps seg s) w) := by
  have G0 := hide (begunD hr)
  have s2 : ((w.alloc (.cells #[.int .i64 x.room, .slice x.a x.ps.length x.c] 31)).alloc (.cells #[.int .i64 0, .slice none 0 0] 31)).heap.size = w.heap.size + 2 := by simp
  have LA := hide (fun u (h : RdD u x) => sSegLate u x seg s h hz hs)
  have RE := hide (show addD x.room x.ps seg s = if (lateD x.room x.ps seg s).2 = 0 then syncD (lateD x.room x.ps seg s).1.1 (lateD x.room x.ps seg s).1.2 seg else lateD x.room x.ps seg s from rfl)
  have OK := hide (ok_late (room := x.room) (ps := x.ps) (seg := seg) (s := s))
  generalize addD x.room x.ps seg s = rr at *
  generalize lateD x.room x.ps seg s = la at *
  obtain ⟨⟨lr, lp⟩, lc⟩ := la
  clear hr
  go_enter Try.func18, Try.ntmps18
  go_wp2_with fail
  refine (unhide LA _ (unhide G0).1.r).mono ?_
  rintro e u ⟨y, hy, rfl, oy, b1⟩
  have e1 : y.room = lr := (Prod.ext_iff.1 hy).1
  have e2 : y.ps = lp := (Prod.ext_iff.1 hy).2
  subst e1 e2
  have W1 := hide ((unhide G0).1.step b1)
  have R1 := hide ((unhide G0).2.below b1 (by omega))
  have us := b1.size
  rw [s2] at oy us
  clear b1 G0 LA s2
  have bA := one_more u (.cells #[.int .i64 y.room, .slice y.a y.ps.length y.c] 31)
  have W2 := hide ((unhide W1).step bA)
  have R2 := hide ((unhide R1).below bA (unhide R1).lt.2)
  have O2 := hide (oy.step bA)
  clear bA oy W1 R1
  by_cases q : lc = 0
  case neg =>
    have E := hide (show rr = ((y.room, y.ps), lc) by rw [unhide RE, if_neg q])
    have qb : (lc != 0) = true := by simpa using q
    have EN := hide (endedD (unhide W2).b (unhide R2) (unhide O2) (by omega))
    have f0 := (unhide R2).free 0
    have f1 := (unhide R2).free 1
    have r0 := (unhide R2).c0
    have r1 := (unhide R2).c1
    clear RE OK q
    go_wp2
    refine bodyPost_ret (v := .tuple #[.agg #[.int .i64 y.room, .slice y.a y.ps.length y.c], .int .i64 lc]) (by simp [results, Try.results18, go_sem, r0, r1]) rfl ?_
    rw [unhide E]
    exact ⟨y, rfl, rfl, (unhide EN).1, (unhide EN).2⟩
  subst q
  have ok := (unhide OK) rfl
  try simp only at ok
  have E := hide (show rr = syncD y.room y.ps seg by rw [unhide RE, if_pos rfl])
  have SY := hide (fun u (h : RdD u y) => sDiskSync u y seg h (by have := ok.2.2.1; have := ok.1.2; omega))
  have l22 := ok.2.1
  generalize syncD y.room y.ps seg = rs at *
  clear RE OK ok
  go_wp2_with fail
  refine (unhide SY _ ((unhide O2).rd (by omega))).mono ?_
  rintro e u9 ⟨z, hz', rfl, oz, b9⟩
  obtain ⟨rd, rc⟩ := rs
  have R9 := hide ((unhide R2).below b9 (unhide R2).lt.2)
  have HZ := hide hz'
  have EN := hide (endedD ((unhide W2).b.trans (b9.mono (unhide W2).b.size)) (unhide R9) oz (unhide R2).lt.2)
  have f0 := (unhide R9).free 0
  have f1 := (unhide R9).free 1
  have r0 := (unhide R9).c0
  have r1 := (unhide R9).c1
  clear b9 oz hz' SY
  go_wp2
  refine bodyPost_ret (v := .tuple #[.agg #[.int .i64 z.room, .slice z.a z.ps.length z.c], .int .i64 rc]) (by simp [results, Try.results18, go_sem, r0, r1]) rfl ?_
  rw [unhide E]
  exact ⟨z, unhide HZ, rfl, (unhide EN).1, (unhide EN).2⟩
end Go.Proofs.Yticofefdbjihiaa.SAdd15
namespace Go.Proofs.Yticofefdbjihiaa.SMend15
open Go.ChangeShapes Go.WideShapes Go.ChangeAt Go.RowKit Fil14 OpensF14 DiskH14 DkH14 SDk14 SOk14 SRd14 SCom14 SCut14 Conv15 SegP15 SSeg15
/-- What SegMend answers. -/
def mendD (room : Int) (ps : List TF) (seg : Int) : (Int × List TF) × Int := if okS seg = true then cutD room ps seg (segD room ps seg).2 else ((0, []), 1)
set_option maxRecDepth 100000 in
set_option maxHeartbeats 4000000 in
theorem sSegMend (w : World) (x : Dx) (seg : Int) (hr : RdD w x) (hz : sumZ x.ps ≤ 1048576) :
    Calls Try.prog 23 #[.agg #[.int .i64 x.room, .slice x.a x.ps.length x.c], .int .i64 seg] w (ToldD (mendD x.room x.ps seg) w) := by
  have G0 := hide (begunD hr)
  have s2 : ((w.alloc (.cells #[.int .i64 x.room, .slice x.a x.ps.length x.c] 31)).alloc (.cells #[.int .i64 0, .slice none 0 0] 31)).heap.size = w.heap.size + 2 := by simp
  have SR := hide (fun u (h : RdD u x) => sSegRead u x seg h hz)
  have CU := hide (fun u (h : RdD u x) => sDiskCut u x seg (segD x.room x.ps seg).2 h hz)
  have RE := hide (show mendD x.room x.ps seg = if okS seg = true then cutD x.room x.ps seg (segD x.room x.ps seg).2 else ((0, []), 1) from rfl)
  generalize mendD x.room x.ps seg = rr at *
  generalize cutD x.room x.ps seg (segD x.room x.ps seg).2 = rc at *
  generalize segD x.room x.ps seg = sg at *
  obtain ⟨sl, sn⟩ := sg
  obtain ⟨rd, cc⟩ := rc
  clear hr
  cases sk : okS seg with
  | false =>
    have E := hide (show rr = ((0, []), 1) by rw [unhide RE, if_neg (by rw [sk]; simp)])
    have SK := hide sk
    clear RE sk
    go_enter Try.func23, Try.ntmps23
    go_wp2_with fail
    generalize (w.alloc (.cells #[.int .i64 x.room, .slice x.a x.ps.length x.c] 31)).alloc (.cells #[.int .i64 0, .slice none 0 0] 31) = W at *
    refine (sSegOk _ seg false (unhide SK)).mono ?_
    rintro e u ⟨rfl, rfl⟩
    have R2 := hide (unhide G0).2
    have EN := hide (endedD (y := ⟨0, none, 0, []⟩) (base0 := w.heap.size + 2) (unhide G0).1.b (unhide R2) ⟨rfl, .inl ⟨rfl, rfl⟩⟩ (by omega))
    have f0 := (unhide R2).free 0
    have f1 := (unhide R2).free 1
    have r0 := (unhide R2).c0
    have r1 := (unhide R2).c1
    go_wp2
    refine bodyPost_ret (v := .tuple #[.agg #[.int .i64 0, .slice none 0 0], .int .i64 1]) (by simp [results, Try.results23, go_sem, r0, r1]) rfl ?_
    rw [unhide E]
    exact ⟨⟨0, none, 0, []⟩, rfl, rfl, (unhide EN).1, (unhide EN).2⟩
  | true =>
    have E := hide (show rr = (rd, cc) by rw [unhide RE, if_pos sk])
    have SK := hide sk
    clear RE sk
    go_enter Try.func23, Try.ntmps23
    go_wp2_with fail
    generalize (w.alloc (.cells #[.int .i64 x.room, .slice x.a x.ps.length x.c] 31)).alloc (.cells #[.int .i64 0, .slice none 0 0] 31) = W at *
    refine (sSegOk _ seg true (unhide SK)).mono ?_
    rintro e u ⟨rfl, rfl⟩
    have c0 := (unhide G0).1.c0
    have c1 := (unhide G0).1.c1
    have lt := (unhide G0).1.lt
    go_wp2_with fail
    refine (unhide SR _ (unhide G0).1.r).mono ?_
    rintro e u1 ⟨g, c, rfl, _, b1⟩
    have W1 := hide ((unhide G0).1.step b1)
    have R1 := hide ((unhide G0).2.below b1 (unhide G0).2.lt.2)
    clear b1 c0 c1 lt G0 SR
    have c0 := (unhide W1).c0
    have c1 := (unhide W1).c1
    have lt := (unhide W1).lt
    go_wp2_with fail
    refine (unhide CU _ (unhide W1).r).mono ?_
    rintro e u9 ⟨z, hz', rfl, oz, b9⟩
    have R9 := hide ((unhide R1).below b9 (unhide R1).lt.2)
    have HZ := hide hz'
    have EN := hide (endedD ((unhide W1).b.trans (b9.mono (unhide W1).b.size)) (unhide R9) oz (unhide R1).lt.2)
    have f0 := (unhide R9).free 0
    have f1 := (unhide R9).free 1
    have r0 := (unhide R9).c0
    have r1 := (unhide R9).c1
    clear b9 oz hz' c0 c1 lt
    go_wp2
    refine bodyPost_ret (v := .tuple #[.agg #[.int .i64 z.room, .slice z.a z.ps.length z.c], .int .i64 cc]) (by simp [results, Try.results23, go_sem, r0, r1]) rfl ?_
    rw [unhide E]
    exact ⟨z, unhide HZ, rfl, (unhide EN).1, (unhide EN).2⟩
end Go.Proofs.Yticofefdbjihiaa.SMend15
namespace Go.Proofs.Yticofefdbjihiaa.LenAppend14
open Go.ChangeShapes Go.WideShapes Go.ChangeAt Go.RowKit Fil14 OpensF14 DiskH14 DkH14 SDk14 SOk14 SRd14 App14 SLess14 SCopy14 SRef14 SCom14 SPut14 SAppend14
theorem putN_len (ps : List TF) (f : TF) : ∀ k, (putN ps f k).1.length ≤ k + (if (putN ps f k).2 = true then 1 else 0)
  | 0 => by simp [putN]
  | k + 1 => by
    have ih := putN_len ps f k
    obtain ⟨L, pb⟩ : ∃ L, ∃ pb, putN ps f k = (L, pb) := ⟨_, _, rfl⟩
    obtain ⟨pb, e⟩ := pb
    rw [putN_succ e]
    rw [e] at ih
    simp only at ih ⊢
    generalize elF ps k = p
    cases pb <;> by_cases a : f.1 ≤ p.1 <;> by_cases b : p.1 = f.1 <;> simp [a, b] at ih ⊢ <;> omega
theorem put_len (ps : List TF) (f : TF) : (putF ps f).length ≤ ps.length + 1 := by
  have h := putN_len ps f ps.length
  unfold putF
  split
  · rename_i q
    rw [if_pos q] at h
    exact h
  · rename_i q
    rw [if_neg q] at h
    simp
    omega
theorem len_append {room : Int} {ps : List TF} (nm : Int) (s : ByteArray) (h : ps.length ≤ 1048576) : (appendD room ps nm s).1.2.length ≤ 1048576 := by
  unfold appendD
  by_cases q : OkD room ps ∧ okN nm = true
  · rw [if_pos q]
    split
    · exact h
    · have := put_len ps (appF ps nm s)
      have := q.1.2.1
      show (putF _ _).length ≤ _
      omega
  · rw [if_neg q]
    simp
end Go.Proofs.Yticofefdbjihiaa.LenAppend14
namespace Go.Proofs.Yticofefdbjihiaa.LenSync14
open Go.ChangeShapes Go.WideShapes Go.ChangeAt Go.RowKit Fil14 OpensF14 DiskH14 DkH14 SDk14 SOk14 SRd14 App14 SLess14 SCopy14 SRef14 SCom14 SPut14 SSync14
theorem ref_len {code room : Int} {ps : List TF} (h : ps.length ≤ 1048576) : (refD code room ps).2.length ≤ 1048576 := by
  unfold refD
  split
  · simp
  · exact h
theorem putN_len (ps : List TF) (f : TF) : ∀ k, (putN ps f k).1.length ≤ k + (if (putN ps f k).2 = true then 1 else 0)
  | 0 => by simp [putN]
  | k + 1 => by
    have ih := putN_len ps f k
    obtain ⟨L, pb⟩ : ∃ L, ∃ pb, putN ps f k = (L, pb) := ⟨_, _, rfl⟩
    obtain ⟨pb, e⟩ := pb
    rw [putN_succ e]
    rw [e] at ih
    simp only at ih ⊢
    generalize elF ps k = p
    cases pb <;> by_cases a : f.1 ≤ p.1 <;> by_cases b : p.1 = f.1 <;> simp [a, b] at ih ⊢ <;> omega
theorem put_len (ps : List TF) (f : TF) : (putF ps f).length ≤ ps.length + 1 := by
  have h := putN_len ps f ps.length
  unfold putF
  split
  · rename_i q
    rw [if_pos q] at h
    exact h
  · rename_i q
    rw [if_neg q] at h
    simp
    omega
theorem len_sync {room : Int} {ps : List TF} (nm : Int) (h : ps.length ≤ 1048576) : (syncD room ps nm).1.2.length ≤ 1048576 := by
  unfold syncD
  by_cases q : (atD room ps nm).2 = 0
  · rw [if_pos q]
    have := put_len ps (nm, bytesAt ps (atD room ps nm).1.toNat, ByteArray.empty)
    have := (at_in q).1.2.1
    show (putF _ _).length ≤ _
    omega
  · rw [if_neg q]
    exact ref_len h
end Go.Proofs.Yticofefdbjihiaa.LenSync14
namespace Go.Proofs.Yticofefdbjihiaa.LenCut14
open Go.ChangeShapes Go.WideShapes Go.ChangeAt Go.RowKit Fil14 OpensF14 DiskH14 DkH14 SDk14 SOk14 SRd14 App14 SLess14 SCopy14 SRef14 SCom14 SPut14 SCut14
theorem ref_len {code room : Int} {ps : List TF} (h : ps.length ≤ 1048576) : (refD code room ps).2.length ≤ 1048576 := by
  unfold refD
  split
  · simp
  · exact h
theorem putN_len (ps : List TF) (f : TF) : ∀ k, (putN ps f k).1.length ≤ k + (if (putN ps f k).2 = true then 1 else 0)
  | 0 => by simp [putN]
  | k + 1 => by
    have ih := putN_len ps f k
    obtain ⟨L, pb⟩ : ∃ L, ∃ pb, putN ps f k = (L, pb) := ⟨_, _, rfl⟩
    obtain ⟨pb, e⟩ := pb
    rw [putN_succ e]
    rw [e] at ih
    simp only at ih ⊢
    generalize elF ps k = p
    cases pb <;> by_cases a : f.1 ≤ p.1 <;> by_cases b : p.1 = f.1 <;> simp [a, b] at ih ⊢ <;> omega
theorem put_len (ps : List TF) (f : TF) : (putF ps f).length ≤ ps.length + 1 := by
  have h := putN_len ps f ps.length
  unfold putF
  split
  · rename_i q
    rw [if_pos q] at h
    exact h
  · rename_i q
    rw [if_neg q] at h
    simp
    omega
theorem len_cut {room : Int} {ps : List TF} (nm n : Int) (h : ps.length ≤ 1048576) : (cutD room ps nm n).1.2.length ≤ 1048576 := by
  unfold cutD
  by_cases q : (atD room ps nm).2 = 0
  · rw [if_pos q]
    split
    · have := put_len ps (nm, (bytesAt ps (atD room ps nm).1.toNat).extract 0 n.toNat, ByteArray.empty)
      have := (at_in q).1.2.1
      show (putF _ _).length ≤ _
      omega
    · exact ref_len h
  · rw [if_neg q]
    exact ref_len h
end Go.Proofs.Yticofefdbjihiaa.LenCut14
namespace Go.Proofs.Yticofefdbjihiaa.SFrom15
open Go.ChangeShapes Go.WideShapes Go.ChangeAt Go.RowKit Fil14 OpensF14 DiskH14 DkH14 SDk14 SOk14 SRd14 SegP15 SSeg15
open App14 (kcell)
open SLess14 (grow_low)
/-- The first j segments from one on, the one behind them, and whether there may be more. -/
def fromS (ps : List TF) (s : Int) : Nat → List Int × Int × Bool
  | 0 => ([], s, true)
  | j + 1 => if (fromS ps s j).2.2 = true ∧ 0 ≤ findF ps (fromS ps s j).2.1 then ((fromS ps s j).1 ++ [(fromS ps s j).2.1], ((fromS ps s j).2.1 + 1) % 20, true) else ((fromS ps s j).1, (fromS ps s j).2.1, false)
theorem fromS_go {ps : List TF} {s : Int} {j : Nat} {l : List Int} {p : Int} (h : fromS ps s j = (l, p, true)) (a : 0 ≤ findF ps p) : fromS ps s (j + 1) = (l ++ [p], (p + 1) % 20, true) := by
  rw [fromS, h, if_pos ⟨rfl, a⟩]
theorem fromS_off {ps : List TF} {s : Int} {j : Nat} {l : List Int} {p : Int} (h : fromS ps s j = (l, p, false)) : ∀ k, fromS ps s (j + k) = (l, p, false)
  | 0 => h
  | k + 1 => by
    rw [← Nat.add_assoc, fromS, fromS_off h k, if_neg (fun q => by simpa using q.1)]
theorem fromS_end {ps : List TF} {s : Int} {j : Nat} {l : List Int} {p : Int} (hj : j < 20) (h : fromS ps s j = (l, p, true)) (a : ¬ 0 ≤ findF ps p) : fromS ps s 20 = (l, p, false) := by
  have q : fromS ps s (j + 1) = (l, p, false) := by rw [fromS, h, if_neg (fun q => a q.2)]
  have := fromS_off q (19 - j)
  rwa [show j + 1 + (19 - j) = 20 by omega] at this
theorem fromS_all {ps : List TF} {s : Int} : ∀ {j : Nat} {l : List Int} {p : Int}, fromS ps s j = (l, p, true) → l.length = j
  | 0, l, p => fun h => by simp [fromS] at h; simp [h.1]
  | j + 1, l, p => fun h => by
    rw [fromS] at h
    split at h
    · rename_i q
      obtain ⟨l0, p0, b0⟩ : ∃ l0 p0, fromS ps s j = (l0, p0, true) := ⟨(fromS ps s j).1, (fromS ps s j).2.1, by rw [← q.1]⟩
      have := fromS_all b0
      rw [b0] at h
      simp at h
      rw [← h.1]
      simp [this]
    · simp at h
/-- What SegsFrom answers. -/
def fromD (room : Int) (ps : List TF) (s : Int) : List Int := if OkD room ps ∧ okS s = true then (fromS ps s 20).1 else []
theorem sAfter (w : World) (n : Int) (h : 0 ≤ n ∧ n ≤ 19) : Calls Try.prog 55 #[.int .i64 n] w fun e w' => e = .returned (.int .i64 ((n + 1) % 20)) ∧ w' = w := by
  have a1 : wrap64 (n + 1) = n + 1 := by rw [wrap64]; omega
  have E : wrap64 ((n + 1).tmod 20) = (n + 1) % 20 := by rw [Int.tmod_eq_emod_of_nonneg (by omega), wrap64]; omega
  go_enter Try.func55, Try.ntmps55
  go_wp2
  go_ret
  exact ⟨by first | rfl | (congr 2; first | exact E | (rw [Int.tmod_eq_emod_of_nonneg (by omega)])), rfl⟩
/-- A number appended to a list of the call's own. -/
theorem wp_appI (u : World) {ops : Array Oper} {rest : List Oper} {o : Oper} {a : Act} {Q : Exit → Act → World → Prop} (hgd : o.guard = none) (s x : Operand)
    (ho : o.op = .call { callee := .builtin .append, args := #[s, x], argTypes := #[42, 42] }) (base g n c : Nat) (xs : List Int) (vb : Nat) (t : Int) (hs : a.eval s = .slice (some ⟨g, 0, none⟩) n c) (hx : a.eval x = .slice (some ⟨vb, 0, none⟩) 1 1) (hown : Ints.Own u base g n c xs) (hc : u.cell? ⟨vb, 0, none⟩ = some (.int .i64 t)) (hn : n ≤ 1048576) (hb : base ≤ u.heap.size)
    (h : ∀ g' c' w', Ints.Own w' base g' (n + 1) c' (xs ++ [t]) → u.grownBy w' (some g) → (g' = g ∨ g' = u.heap.size) → wpList Try.prog ops Q rest (a.put o.dst (.slice (some ⟨g', 0, none⟩) (n + 1) c')) w') : wpList Try.prog ops Q (o :: rest) a u := by
  obtain ⟨i0, hi, hz0, hz1, hz2⟩ := info_parts Ints.info3
  refine wpList_append_own_at u hgd s x 42 ho base 3 i0 (.int .i64 0) 1 8 Try.underlying42 hi hz0 hz1 hz2 rfl (by decide) (.slice (some ⟨g, 0, none⟩) n c) n (xs.map (Value.int .i64)) hs hown ⟨vb, 0, none⟩ 1 1 [.int .i64 t] hx (by simp) (fun j w hj => by
    rw [Addr.add_lit, Nat.zero_add]
    cases j with
    | zero => simp at hj; rw [← hj]; exact hc
    | succ j => simp at hj) (fun w hw => by rw [List.mem_singleton.1 hw]; rfl) (by unfold maxLen; omega) (by omega) hb ?_
  intro v' w' own' gr' nil' loc'
  rcases own'.2 with ⟨e1, _⟩ | ⟨g', c', cur, rfl, _⟩
  · rw [e1] at nil'; simp at nil'
  · exact h g' c' w' (by unfold Ints.Own; rw [List.map_append]; exact own') gr' (loc'.elim (fun q => .inl (Option.some.inj (show some g' = some g from q))) (fun q => .inr (Option.some.inj (show some g' = some u.heap.size from q))))
set_option maxRecDepth 100000 in
set_option maxHeartbeats 4000000 in
theorem sSegsFrom (w : World) (x : Dx) (s : Int) (hr : RdD w x) (hz : sumZ x.ps ≤ 1048576) :
    Calls Try.prog 25 #[.agg #[.int .i64 x.room, .slice x.a x.ps.length x.c], .int .i64 s] w fun e w' => ∃ g c, e = .returned (.slice (some ⟨g, 0, none⟩) (fromD x.room x.ps s).length c) ∧ Ints.Own w' w.heap.size g (fromD x.room x.ps s).length c (fromD x.room x.ps s) ∧ Below w.heap.size w w' := by
  have F : ∀ W1, W1 = w.alloc (.cells #[.int .i64 x.room, .slice x.a x.ps.length x.c] 31) → ∀ W2, W2 = W1.alloc (.cells #[] 3) → Wd w W2 x ∧ Ints.Own W2 w.heap.size (w.heap.size + 1) 0 0 [] ∧ W2.heap.size = w.heap.size + 2 := by
    intro W1 h1 W2 h2
    have s1 : W1.heap.size = w.heap.size + 1 := by rw [h1]; simp
    have s2 : W2.heap.size = w.heap.size + 2 := by rw [h2]; simp [s1]
    have d1 : Wd w W1 x := by rw [h1]; exact Wd.made hr _
    have b2 : Below W1.heap.size W1 W2 := by rw [h2]; exact one_more _ _
    have o : Ints.Own (W1.alloc (.cells #[] 3)) w.heap.size W1.heap.size 0 0 [] := World.ownsRow_lit W1 #[] 0 (by omega) (by decide) rfl
    rw [s1, ← h2] at o
    exact ⟨d1.step b2, o, s2⟩
  have G0 := hide (F _ rfl _ rfl)
  have OK0 := hide (fun u (h : RdD u x) => sDiskOk u x h hz)
  have FI := hide (fun u (h : RdD u x) n => sFind u x n h)
  have RE := hide (show fromD x.room x.ps s = if OkD x.room x.ps ∧ okS s = true then (fromS x.ps s 20).1 else [] from rfl)
  have XA := hide (fun g e => (hr.r g e).1)
  generalize fromD x.room x.ps s = rr at *
  clear F hr
  go_enter Try.func25, Try.ntmps25
  go_wp2_with fail
  generalize (w.alloc (.cells #[.int .i64 x.room, .slice x.a x.ps.length x.c] 31)).alloc (.cells #[] 3) = W at *
  refine (unhide OK0 _ (unhide G0).1.r).mono ?_
  rintro e u ⟨rfl, b1⟩
  have OU := hide ((unhide G0).2.1.below b1 (by have := (unhide G0).2.2; omega))
  have WU := hide ((unhide G0).1.step b1)
  have us := b1.size
  rw [(unhide G0).2.2] at us
  clear b1 G0 OK0
  by_cases ok : OkD x.room x.ps
  case neg =>
    obtain rfl : rr = [] := by rw [unhide RE, if_neg (fun h => ok h.1)]
    have od : decide (OkD x.room x.ps) = false := decide_eq_false ok
    clear RE ok
    go_wp2
    go_ret
    exact ⟨w.heap.size + 1, 0, rfl, unhide OU, (unhide WU).b⟩
  have od : decide (OkD x.room x.ps) = true := decide_eq_true ok
  cases sk : okS s with
  | false =>
    obtain rfl : rr = [] := by rw [unhide RE, if_neg (fun h => by rw [sk] at h; simp at h)]
    have SK := hide sk
    clear RE sk ok
    go_wp2_with fail
    refine (sSegOk _ s false (unhide SK)).mono ?_
    rintro e u ⟨rfl, rfl⟩
    go_wp2
    go_ret
    exact ⟨w.heap.size + 1, 0, rfl, unhide OU, (unhide WU).b⟩
  | true =>
    have RR := hide (show rr = (fromS x.ps s 20).1 by rw [unhide RE, if_pos ⟨ok, sk⟩])
    have SK := hide sk
    have s19 : 0 ≤ s ∧ s ≤ 19 := of_decide_eq_true sk
    have S0 := hide (show fromS x.ps s 0 = ([], s, true) from rfl)
    clear RE sk ok
    go_wp2_with fail
    refine (sSegOk _ s true (unhide SK)).mono ?_
    rintro e u ⟨rfl, rfl⟩
    go_wp2
    go_loopw [1, 5] (fun f o wr => ∃ (j g c : Nat) (l : List Int) (p : Int), f = .int .i64 p ∧ o = .slice (some ⟨g, 0, none⟩) j c ∧ j ≤ 20 ∧ 0 ≤ p ∧ p ≤ 19 ∧ w.heap.size < g ∧ Hid (fromS x.ps s j = (l, p, true)) ∧ Hid (Ints.Own wr w.heap.size g j c l) ∧ Hid (Wd w wr x)) (fun _ o _ => 20 - (match o with | .slice _ n _ => n | _ => 0))
    case atStart => exact ⟨0, w.heap.size + 1, 0, [], s, rfl, rfl, by omega, s19.1, s19.2, by omega, S0, OU, WU⟩
    case round =>
      clear S0 OU WU s19
      obtain ⟨j, g, c, l, p, rfl, rfl, hj, p0, p1, gg, HS, HO, HW⟩ := hrel
      by_cases j6 : j < 20
      case neg =>
        have jb : decide ((j : Int) < 20) = false := decide_eq_false (by omega)
        have E := hide (show rr = l ∧ l.length = j by
          refine ⟨?_, fromS_all (unhide HS)⟩
          obtain rfl : j = 20 := by omega
          rw [unhide RR, unhide HS])
        clear j6
        go_wp2
        go_ret
        rw [(unhide E).1]
        exact ⟨g, c, by rw [(unhide E).2]; rfl, by rw [(unhide E).2]; exact unhide HO, (unhide HW).b⟩
      have jb : (j : Int) < 20 := by omega
      have c0 := (unhide HW).c0
      have c1 := (unhide HW).c1
      have lt := (unhide HW).lt
      have GO := hide (fun b => fromS_go (unhide HS) b)
      have ST := hide (fun b => fromS_end j6 (unhide HS) b)
      have F1 := hide ((unhide FI) wr (unhide HW).r p)
      generalize findF x.ps p = fi at *
      go_wp2_with fail
      refine (unhide F1).mono ?_
      rintro e w4 ⟨rfl, b4⟩
      have O4 := hide ((unhide HO).below b4 (unhide HO).lt.2)
      have W4 := hide ((unhide HW).step b4)
      clear b4 HO HW c0 c1 lt F1
      by_cases fz : fi ≥ 0
      case neg =>
        have fd : decide (fi ≥ 0) = false := decide_eq_false fz
        have E := hide (show rr = l ∧ l.length = j from ⟨by rw [unhide RR, (unhide ST) (by omega)], fromS_all (unhide HS)⟩)
        clear fz GO ST
        go_wp2
        go_ret
        rw [(unhide E).1]
        exact ⟨g, c, by rw [(unhide E).2]; rfl, by rw [(unhide E).2]; exact unhide O4, (unhide W4).b⟩
      have NS := hide ((unhide GO) fz)
      clear GO ST
      have LB := one_more w4 (.cells #[.int .i64 p] 3)
      have OL := hide ((unhide O4).below LB (unhide O4).lt.2)
      have WL := hide ((unhide W4).step LB)
      clear LB
      go_wp2_with (first | (at_builtin; refine wp_appI _ rfl _ _ rfl w.heap.size g j c l w4.heap.size p rfl rfl (unhide OL) (by simp) (by omega) (unhide WL).b.size ?_; intro g9 c9 w9 o9 gr9 loc; have LC := hide loc; have O9 := hide o9; have G9 := hide gr9; clear loc o9 gr9) | fail)
      refine (sAfter _ p ⟨p0, p1⟩).mono ?_
      rintro e w9 ⟨rfl, rfl⟩
      have gl := hide (unhide OL).lt
      have W9 := hide (ITb14.wd_grown (unhide WL) (unhide G9) gg (fun k e => by have := (unhide XA) k e; omega))
      go_wp2
      go_roundw
      case rel =>
        have q : w.heap.size < g9 := by
          rcases unhide LC with q | q
          · omega
          · have := (unhide WL).lt; omega
        exact ⟨j + 1, g9, c9, l ++ [p], (p + 1) % 20, rfl, rfl, by omega, by omega, by omega, q, NS, O9, W9⟩
      case measure => simp; omega
end Go.Proofs.Yticofefdbjihiaa.SFrom15
