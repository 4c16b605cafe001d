/- Texts of one proof, one behind the other: SSeal11, SLate15, SAdd15, SMend15, OkS15, TabF14, ITb14, SFrom15, DrawG15, DrawC14, DrawA14, DrawK15. -/
import Derived.Test.YtcajdiopgaoicaaRows
import Derived.Test.YtcajdiopgaoicaaSG1
import Derived.Test.YtcajdiopgaoicaaSG2
import Derived.Test.YtcajdiopgaoicaaSG3
import Derived.Test.YtcajdiopgaoicaaSG4
import Derived.Test.YtcajdiopgaoicaaSG5
import Derived.Test.YtcajdiopgaoicaaSG6
import Derived.Test.YtcajdiopgaoicaaSG7
import Derived.Maps.OwnSet
import Derived.Maps.AppendAt
import Derived.Deep.RegionHeld3
import Derived.Deep.DeepCutAuto
import Derived.Laws.MakeOwn
import Derived.Deep.OwnRows
set_option linter.unusedVariables false
set_option linter.unusedSimpArgs false
namespace Go.Proofs.Ytcajdiopgaoicaa.SSeal11
open Go.ChangeShapes Go.WideShapes Go.ChangeAt Go.RowKit SBytes SPut11 SPuts11
open ByteH (Own At)
theorem chkB_in (xs : List Int) : 0 ≤ chkB xs ∧ chkB xs ≤ 4294967295 := by
  have := chk_in xs xs.length
  unfold chkB
  omega
/-- A sum as four bytes, the lowest first. -/
def four (n : Int) : List Int := [n % 256, n / 256 % 256, n / 65536 % 256, n / 16777216 % 256]
/-- Sealed bytes. -/
def sealB (xs : List Int) : List Int := if xs.length ≤ 9000 then numB xs.length ++ xs ++ four (chkB xs) else []
theorem lit_four (w : World) (a b c d : Int) : AtO (w.alloc (.cells #[.int .u8 a, .int .u8 b, .int .u8 c, .int .u8 d] 5)) w.heap.size 0 [a, b, c, d] := by
  intro i hi
  have : i = 0 ∨ i = 1 ∨ i = 2 ∨ i = 3 := by simp at hi; omega
  rcases this with rfl | rfl | rfl | rfl <;> simp
set_option maxRecDepth 100000 in
set_option maxHeartbeats 4000000 in
theorem sSeal (w : World) (gl cl : Nat) (xs : List Int) (h20 : xs.length ≤ 1048576) (hg : gl < w.heap.size) (hr : AtB w gl xs) :
    Calls Try.prog 60 #[.slice (some ⟨gl, 0, none⟩) xs.length cl] w fun e w' => ∃ g c, e = .returned (.tuple #[.slice (some ⟨g, 0, none⟩) (sealB xs).length c, .bool (decide (xs.length ≤ 9000))]) ∧ Own w' w.heap.size g (sealB xs).length c (sealB xs) ∧ Below w.heap.size w w' := by
  by_cases h0 : xs.length ≤ 9000
  case neg =>
    have e : sealB xs = [] := if_neg h0
    rw [e]
    have O0 := hide (lit0 w w.heap.size (Nat.le_refl _) rfl)
    have B0 := hide (one_more w (.cells #[] 5))
    have h1 : (9000 : Int) < xs.length := by omega
    have D := hide (show decide (xs.length ≤ 9000) = false from by simp; omega)
    rw [unhide D]
    clear e h0 hr
    go_enter Try.func60, Try.ntmps60
    go_wp2
    go_ret2
    exact ⟨_, 0, rfl, unhide O0, unhide B0⟩
  have S := hide (show numB xs.length ++ xs ++ four (chkB xs) = sealB xs from (if_pos h0).symm)
  have D := hide (show decide (xs.length ≤ 9000) = true from by simp; omega)
  rw [unhide D]
  have CI := hide (show 0 ≤ 65536 * (chk xs xs.length).2 + (chk xs xs.length).1 ∧ 65536 * (chk xs xs.length).2 + (chk xs xs.length).1 ≤ 4294967295 from chkB_in xs)
  have R := hide hr
  have HG := hide hg
  have nine := numB_nine (x := xs.length) (by omega)
  have h1 : ¬ (9000 : Int) < xs.length := by omega
  clear hr hg D
  go_enter Try.func60, Try.ntmps60
  go_wp2_with fail
  refine (sCheck _ gl cl xs h20 (unhide R)).mono ?_
  rintro e u ⟨rfl, rfl⟩
  have S1 := hide (show numB xs.length ++ xs ++ four (65536 * (chk xs xs.length).2 + (chk xs xs.length).1) = sealB xs from unhide S)
  clear S
  generalize 65536 * (chk xs xs.length).2 + (chk xs xs.length).1 = n at *
  clear h1
  go_wp2_with fail
  refine (sPutNum _ xs.length (by omega)).mono ?_
  rintro e u1 ⟨g1, c1, rfl, o1, b1⟩
  have O1 := hide o1
  have B1 := hide b1
  have us := b1.size
  have og := o1.lt
  clear o1 b1
  go_wp2_with (first | (at_builtin; refine wp_catB _ rfl _ _ rfl u.heap.size g1 (numB xs.length).length c1 xs.length (numB xs.length) xs gl 0 cl rfl rfl (unhide O1) rfl (AtO.of (fun i hi => ((AtB.below (unhide R) (unhide B1) (unhide HG)) i hi).1)) (by omega) (by omega) ?_) | go_in)
  intro g2 c2 w2 o2 gr2 loc2
  have O2 := hide o2
  have B2 := hide ((unhide B1).grown gr2 (by omega) (fun j hj => by cases hj; exact og.1))
  have og2 := o2.lt
  have us2 := gr2.size
  clear o2 gr2 loc2
  obtain ⟨n0, n1⟩ := unhide CI
  have N := hide (And.intro n0 n1)
  have m9 : (numB xs.length).length + xs.length ≤ 9009 := by omega
  generalize hm : (numB xs.length).length + xs.length = m at *
  have HM := hide hm
  clear hm n0 n1
  go_wp2_with (first | (at_builtin; refine wp_catB _ rfl _ _ rfl u.heap.size g2 m c2 4 (numB xs.length ++ xs) _ w2.heap.size 0 4 rfl rfl (own_alloc (unhide O2) _) (by rfl) (lit_four _ _ _ _ _) (by omega) (by simp; omega) ?_) | go_in)
  intro g3 c3 w3 o3 gr3 loc3
  have O3 := hide o3
  have B3 := hide (((unhide B2).alloc (by omega) (.cells #[.int .u8 (n % 256), .int .u8 (n / 256 % 256), .int .u8 (n / 65536 % 256), .int .u8 (n / 16777216 % 256)] 5)).grown gr3 (by simp; omega) (fun j hj => by cases hj; exact og2.1))
  clear o3 gr3 loc3
  go_wp2
  go_ret2
  have e := unhide S1
  have l : (sealB xs).length = m + 4 := by rw [← e, ← unhide HM]; simp [four]; omega
  refine ⟨g3, c3, by rw [l]; rfl, ?_, unhide B3⟩
  rw [l, ← e]
  have := unhide O3
  simpa [four, List.append_assoc] using this
end Go.Proofs.Ytcajdiopgaoicaa.SSeal11
namespace Go.Proofs.Ytcajdiopgaoicaa.SLate15
open Go.ChangeShapes Go.WideShapes Go.ChangeAt Go.RowKit Fil14 DiskH14 DkH14 SDk14 SOk14 SRd14 SCom14 SAppend14 Conv15 SegP15 SSeg15
open SBytes (AtB)
open SSeal11 (sealB sSeal)
/-- The seal of a text, as a text. -/
def sealT (s : ByteArray) : ByteArray := strOfNums (sealB (nums s))
/-- What SegLate answers. -/
noncomputable def lateD (room : Int) (ps : List TF) (seg : Int) (s : ByteArray) : (Int × List TF) × Int := if s.size ≤ 9000 ∧ okS seg = true then appendD room ps seg (sealT s) else ((0, []), 1)
set_option maxRecDepth 100000 in
set_option maxHeartbeats 4000000 in
theorem sSegLate (w : World) (x : Dx) (seg : Int) (s : ByteArray) (hr : RdD w x) (hz : sumZ x.ps ≤ 1048576) (hs : s.size ≤ 1048576) :
    Calls Try.prog 31 #[.agg #[.int .i64 x.room, .slice x.a x.ps.length x.c], .int .i64 seg, .string s] w (ToldD (lateD x.room x.ps seg s) w) := by
  have G0 := hide (begunD hr)
  have s2 : ((w.alloc (.cells #[.int .i64 x.room, .slice x.a x.ps.length x.c] 26)).alloc (.cells #[.int .i64 0, .slice none 0 0] 26)).heap.size = w.heap.size + 2 := by simp
  obtain ⟨cb, W3, hcb, CV, AB, s3, b3⟩ := to_bytes ((w.alloc (.cells #[.int .i64 x.room, .slice x.a x.ps.length x.c] 26)).alloc (.cells #[.int .i64 0, .slice none 0 0] 26)) s
  have W4 := hide ((unhide G0).1.step b3)
  have R4 := hide ((unhide G0).2.below b3 (by omega))
  rw [s2] at CV AB s3
  have SE := hide (sSeal W3 (w.heap.size + 2) cb (nums s) (by rw [nums_len]; exact hs) (by omega) AB)
  have RE := hide (show lateD x.room x.ps seg s = if s.size ≤ 9000 ∧ okS seg = true then appendD x.room x.ps seg (sealT s) else ((0, []), 1) from rfl)
  have AP := hide (fun u (h : RdD u x) hq => sDiskAppend u x seg (sealT s) h hz hq)
  have ET : sealT s = strOfNums (sealB (nums s)) := rfl
  have XL := hide (nums_len s)
  rw [ET] at AP RE
  generalize lateD x.room x.ps seg s = rr at *
  generalize appendD x.room x.ps seg (strOfNums (sealB (nums s))) = ra at *
  generalize sealB (nums s) = sb at *
  generalize nums s = xs at *
  clear hr G0 AB b3 ET hcb
  go_enter Try.func31, Try.ntmps31
  go_wp2_with fail
  refine (unhide SE).mono ?_
  rintro e u ⟨g, c, rfl, o5, b5⟩
  have CB := of_bytes u g c sb o5.at
  have SB := hide (show sb.length ≤ 9223372036854775807 by
    rcases o5.2 with ⟨h1, _⟩ | ⟨g', c', cur, h1, h2, h3, h4, h5, h6⟩
    · simp at h1
    · unfold maxLen at h5
      omega)
  have W5 := hide ((unhide W4).step b5)
  have R5 := hide ((unhide R4).below b5 (unhide R4).lt.2)
  have us := b5.size
  clear o5 b5 CV SE W4 R4
  have c0 := (unhide W5).c0
  have c1 := (unhide W5).c1
  have lt := (unhide W5).lt
  by_cases q : s.size ≤ 9000
  case neg =>
    have E := hide (show rr = ((0, []), 1) by rw [unhide RE, if_neg (fun h => q h.1)])
    have EN := hide (endedD (y := ⟨0, none, 0, []⟩) (base0 := w.heap.size + 2) (unhide W5).b (unhide R5) ⟨rfl, .inl ⟨rfl, rfl⟩⟩ (by omega))
    have f0 := (unhide R5).free 0
    have f1 := (unhide R5).free 1
    have r0 := (unhide R5).c0
    have r1 := (unhide R5).c1
    have qd : decide (xs.length ≤ 9000) = false := decide_eq_false (by rw [unhide XL]; exact q)
    clear RE AP q CB c0 c1 lt
    go_wp2
    refine bodyPost_ret (v := .tuple #[.agg #[.int .i64 0, .slice none 0 0], .int .i64 1]) (by simp [results, Try.results31, go_sem, r0, r1]) rfl ?_
    rw [unhide E]
    exact ⟨⟨0, none, 0, []⟩, rfl, rfl, (unhide EN).1, (unhide EN).2⟩
  have qd : decide (xs.length ≤ 9000) = true := decide_eq_true (by rw [unhide XL]; exact q)
  cases sk : okS seg with
  | false =>
    have E := hide (show rr = ((0, []), 1) by rw [unhide RE, if_neg (fun h => by rw [sk] at h; simp at h)])
    have EN := hide (endedD (y := ⟨0, none, 0, []⟩) (base0 := w.heap.size + 2) (unhide W5).b (unhide R5) ⟨rfl, .inl ⟨rfl, rfl⟩⟩ (by omega))
    have f0 := (unhide R5).free 0
    have f1 := (unhide R5).free 1
    have r0 := (unhide R5).c0
    have r1 := (unhide R5).c1
    have SK := hide sk
    clear RE AP q CB sk c0 c1 lt
    go_wp2_with fail
    refine (sSegOk _ seg false (unhide SK)).mono ?_
    rintro e u ⟨rfl, rfl⟩
    go_wp2
    refine bodyPost_ret (v := .tuple #[.agg #[.int .i64 0, .slice none 0 0], .int .i64 1]) (by simp [results, Try.results31, go_sem, r0, r1]) rfl ?_
    rw [unhide E]
    exact ⟨⟨0, none, 0, []⟩, rfl, rfl, (unhide EN).1, (unhide EN).2⟩
  | true =>
    have E := hide (show rr = ra by rw [unhide RE, if_pos ⟨q, sk⟩])
    have SK := hide sk
    clear RE q sk
    go_wp2_with fail
    refine (sSegOk _ seg true (unhide SK)).mono ?_
    rintro e u ⟨rfl, rfl⟩
    go_wp2_with fail
    refine (unhide AP _ (unhide W5).r (by rw [strOfNums_size]; exact unhide SB)).mono ?_
    rintro e u9 ⟨y, hy, rfl, oy, b9⟩
    obtain ⟨rd, rc⟩ := ra
    have R9 := hide ((unhide R5).below b9 (unhide R5).lt.2)
    have HY := hide hy
    have EN := hide (endedD ((unhide W5).b.trans (b9.mono (unhide W5).b.size)) (unhide R9) oy (unhide R5).lt.2)
    have f0 := (unhide R9).free 0
    have f1 := (unhide R9).free 1
    have r0 := (unhide R9).c0
    have r1 := (unhide R9).c1
    clear b9 oy hy c0 c1 lt CB AP
    go_wp2
    refine bodyPost_ret (v := .tuple #[.agg #[.int .i64 y.room, .slice y.a y.ps.length y.c], .int .i64 rc]) (by simp [results, Try.results31, go_sem, r0, r1]) rfl ?_
    rw [unhide E]
    exact ⟨y, unhide HY, rfl, (unhide EN).1, (unhide EN).2⟩
end Go.Proofs.Ytcajdiopgaoicaa.SLate15
namespace Go.Proofs.Ytcajdiopgaoicaa.SAdd15
open Go.ChangeShapes Go.WideShapes Go.ChangeAt Go.RowKit Fil14 DiskH14 DkH14 SDk14 SOk14 SRd14 SCom14 SAppend14 SSync14 Conv15 SegP15 SSeg15 SLate15
/-- What SegAdd answers. -/
noncomputable def addD (room : Int) (ps : List TF) (seg : Int) (s : ByteArray) : (Int × List TF) × Int := if (lateD room ps seg s).2 = 0 then syncD (lateD room ps seg s).1.1 (lateD room ps seg s).1.2 seg else lateD room ps seg s
/-- What is told when it is done is a disk as it should be. -/
theorem ok_late {room : Int} {ps : List TF} {seg : Int} {s : ByteArray} (h : (lateD room ps seg s).2 = 0) : OkD (lateD room ps seg s).1.1 (lateD room ps seg s).1.2 := by
  unfold lateD at h ⊢
  split at h
  · rename_i q
    rw [if_pos q]
    unfold appendD at h ⊢
    by_cases ok : OkD room ps ∧ okN seg = true
    · rw [if_pos ok] at h ⊢
      by_cases f : room - sumZ ps < (sealT s).size
      · rw [if_pos f] at h
        simp at h
      · rw [if_neg f]
        exact Ok14.ok_append (room := room) ok.1 ok.2 (by omega)
    · rw [if_neg ok] at h
      simp at h
  · simp at h
set_option maxRecDepth 100000 in
set_option maxHeartbeats 4000000 in
theorem sSegAdd (w : World) (x : Dx) (seg : Int) (s : ByteArray) (hr : RdD w x) (hz : sumZ x.ps ≤ 1048576) (hs : s.size ≤ 1048576) :
    Calls Try.prog 11 #[.agg #[.int .i64 x.room, .slice x.a x.ps.length x.c], .int .i64 seg, .string s] w (ToldD (addD x.room x.ps seg s) w) := by
  have G0 := hide (begunD hr)
  have s2 : ((w.alloc (.cells #[.int .i64 x.room, .slice x.a x.ps.length x.c] 26)).alloc (.cells #[.int .i64 0, .slice none 0 0] 26)).heap.size = w.heap.size + 2 := by simp
  have LA := hide (fun u (h : RdD u x) => sSegLate u x seg s h hz hs)
  have RE := hide (show addD x.room x.ps seg s = if (lateD x.room x.ps seg s).2 = 0 then syncD (lateD x.room x.ps seg s).1.1 (lateD x.room x.ps seg s).1.2 seg else lateD x.room x.ps seg s from rfl)
  have OK := hide (ok_late (room := x.room) (ps := x.ps) (seg := seg) (s := s))
  generalize addD x.room x.ps seg s = rr at *
  generalize lateD x.room x.ps seg s = la at *
  obtain ⟨⟨lr, lp⟩, lc⟩ := la
  clear hr
  go_enter Try.func11, Try.ntmps11
  go_wp2_with fail
  refine (unhide LA _ (unhide G0).1.r).mono ?_
  rintro e u ⟨y, hy, rfl, oy, b1⟩
  have e1 : y.room = lr := (Prod.ext_iff.1 hy).1
  have e2 : y.ps = lp := (Prod.ext_iff.1 hy).2
  subst e1 e2
  have W1 := hide ((unhide G0).1.step b1)
  have R1 := hide ((unhide G0).2.below b1 (by omega))
  have us := b1.size
  rw [s2] at oy us
  clear b1 G0 LA s2
  have bA := one_more u (.cells #[.int .i64 y.room, .slice y.a y.ps.length y.c] 26)
  have W2 := hide ((unhide W1).step bA)
  have R2 := hide ((unhide R1).below bA (unhide R1).lt.2)
  have O2 := hide (oy.step bA)
  clear bA oy W1 R1
  by_cases q : lc = 0
  case neg =>
    have E := hide (show rr = ((y.room, y.ps), lc) by rw [unhide RE, if_neg q])
    have qb : (lc != 0) = true := by simpa using q
    have EN := hide (endedD (unhide W2).b (unhide R2) (unhide O2) (by omega))
    have f0 := (unhide R2).free 0
    have f1 := (unhide R2).free 1
    have r0 := (unhide R2).c0
    have r1 := (unhide R2).c1
    clear RE OK q
    go_wp2
    refine bodyPost_ret (v := .tuple #[.agg #[.int .i64 y.room, .slice y.a y.ps.length y.c], .int .i64 lc]) (by simp [results, Try.results11, go_sem, r0, r1]) rfl ?_
    rw [unhide E]
    exact ⟨y, rfl, rfl, (unhide EN).1, (unhide EN).2⟩
  subst q
  have ok := (unhide OK) rfl
  try simp only at ok
  have E := hide (show rr = syncD y.room y.ps seg by rw [unhide RE, if_pos rfl])
  have SY := hide (fun u (h : RdD u y) => sDiskSync u y seg h (by have := ok.2.2.1; have := ok.1.2; omega))
  have l22 := ok.2.1
  generalize syncD y.room y.ps seg = rs at *
  clear RE OK ok
  go_wp2_with fail
  refine (unhide SY _ ((unhide O2).rd (by omega))).mono ?_
  rintro e u9 ⟨z, hz', rfl, oz, b9⟩
  obtain ⟨rd, rc⟩ := rs
  have R9 := hide ((unhide R2).below b9 (unhide R2).lt.2)
  have HZ := hide hz'
  have EN := hide (endedD ((unhide W2).b.trans (b9.mono (unhide W2).b.size)) (unhide R9) oz (unhide R2).lt.2)
  have f0 := (unhide R9).free 0
  have f1 := (unhide R9).free 1
  have r0 := (unhide R9).c0
  have r1 := (unhide R9).c1
  clear b9 oz hz' SY
  go_wp2
  refine bodyPost_ret (v := .tuple #[.agg #[.int .i64 z.room, .slice z.a z.ps.length z.c], .int .i64 rc]) (by simp [results, Try.results11, go_sem, r0, r1]) rfl ?_
  rw [unhide E]
  exact ⟨z, unhide HZ, rfl, (unhide EN).1, (unhide EN).2⟩
end Go.Proofs.Ytcajdiopgaoicaa.SAdd15
namespace Go.Proofs.Ytcajdiopgaoicaa.SMend15
open Go.ChangeShapes Go.WideShapes Go.ChangeAt Go.RowKit Fil14 DiskH14 DkH14 SDk14 SOk14 SRd14 SCom14 SCut14 Conv15 SegP15 SSeg15
/-- What SegMend answers. -/
def mendD (room : Int) (ps : List TF) (seg : Int) : (Int × List TF) × Int := if okS seg = true then cutD room ps seg (segD room ps seg).2 else ((0, []), 1)
set_option maxRecDepth 100000 in
set_option maxHeartbeats 4000000 in
theorem sSegMend (w : World) (x : Dx) (seg : Int) (hr : RdD w x) (hz : sumZ x.ps ≤ 1048576) :
    Calls Try.prog 8 #[.agg #[.int .i64 x.room, .slice x.a x.ps.length x.c], .int .i64 seg] w (ToldD (mendD x.room x.ps seg) w) := by
  have G0 := hide (begunD hr)
  have s2 : ((w.alloc (.cells #[.int .i64 x.room, .slice x.a x.ps.length x.c] 26)).alloc (.cells #[.int .i64 0, .slice none 0 0] 26)).heap.size = w.heap.size + 2 := by simp
  have SR := hide (fun u (h : RdD u x) => sSegRead u x seg h hz)
  have CU := hide (fun u (h : RdD u x) => sDiskCut u x seg (segD x.room x.ps seg).2 h hz)
  have RE := hide (show mendD x.room x.ps seg = if okS seg = true then cutD x.room x.ps seg (segD x.room x.ps seg).2 else ((0, []), 1) from rfl)
  generalize mendD x.room x.ps seg = rr at *
  generalize cutD x.room x.ps seg (segD x.room x.ps seg).2 = rc at *
  generalize segD x.room x.ps seg = sg at *
  obtain ⟨sl, sn⟩ := sg
  obtain ⟨rd, cc⟩ := rc
  clear hr
  cases sk : okS seg with
  | false =>
    have E := hide (show rr = ((0, []), 1) by rw [unhide RE, if_neg (by rw [sk]; simp)])
    have SK := hide sk
    clear RE sk
    go_enter Try.func8, Try.ntmps8
    go_wp2_with fail
    generalize (w.alloc (.cells #[.int .i64 x.room, .slice x.a x.ps.length x.c] 26)).alloc (.cells #[.int .i64 0, .slice none 0 0] 26) = W at *
    refine (sSegOk _ seg false (unhide SK)).mono ?_
    rintro e u ⟨rfl, rfl⟩
    have R2 := hide (unhide G0).2
    have EN := hide (endedD (y := ⟨0, none, 0, []⟩) (base0 := w.heap.size + 2) (unhide G0).1.b (unhide R2) ⟨rfl, .inl ⟨rfl, rfl⟩⟩ (by omega))
    have f0 := (unhide R2).free 0
    have f1 := (unhide R2).free 1
    have r0 := (unhide R2).c0
    have r1 := (unhide R2).c1
    go_wp2
    refine bodyPost_ret (v := .tuple #[.agg #[.int .i64 0, .slice none 0 0], .int .i64 1]) (by simp [results, Try.results8, go_sem, r0, r1]) rfl ?_
    rw [unhide E]
    exact ⟨⟨0, none, 0, []⟩, rfl, rfl, (unhide EN).1, (unhide EN).2⟩
  | true =>
    have E := hide (show rr = (rd, cc) by rw [unhide RE, if_pos sk])
    have SK := hide sk
    clear RE sk
    go_enter Try.func8, Try.ntmps8
    go_wp2_with fail
    generalize (w.alloc (.cells #[.int .i64 x.room, .slice x.a x.ps.length x.c] 26)).alloc (.cells #[.int .i64 0, .slice none 0 0] 26) = W at *
    refine (sSegOk _ seg true (unhide SK)).mono ?_
    rintro e u ⟨rfl, rfl⟩
    have c0 := (unhide G0).1.c0
    have c1 := (unhide G0).1.c1
    have lt := (unhide G0).1.lt
    go_wp2_with fail
    refine (unhide SR _ (unhide G0).1.r).mono ?_
    rintro e u1 ⟨g, c, rfl, _, b1⟩
    have W1 := hide ((unhide G0).1.step b1)
    have R1 := hide ((unhide G0).2.below b1 (unhide G0).2.lt.2)
    clear b1 c0 c1 lt G0 SR
    have c0 := (unhide W1).c0
    have c1 := (unhide W1).c1
    have lt := (unhide W1).lt
    go_wp2_with fail
    refine (unhide CU _ (unhide W1).r).mono ?_
    rintro e u9 ⟨z, hz', rfl, oz, b9⟩
    have R9 := hide ((unhide R1).below b9 (unhide R1).lt.2)
    have HZ := hide hz'
    have EN := hide (endedD ((unhide W1).b.trans (b9.mono (unhide W1).b.size)) (unhide R9) oz (unhide R1).lt.2)
    have f0 := (unhide R9).free 0
    have f1 := (unhide R9).free 1
    have r0 := (unhide R9).c0
    have r1 := (unhide R9).c1
    clear b9 oz hz' c0 c1 lt
    go_wp2
    refine bodyPost_ret (v := .tuple #[.agg #[.int .i64 z.room, .slice z.a z.ps.length z.c], .int .i64 cc]) (by simp [results, Try.results8, go_sem, r0, r1]) rfl ?_
    rw [unhide E]
    exact ⟨z, unhide HZ, rfl, (unhide EN).1, (unhide EN).2⟩
end Go.Proofs.Ytcajdiopgaoicaa.SMend15
namespace Go.Proofs.Ytcajdiopgaoicaa.OkS15
open Fil14 DiskH14 SDk14 SOk14 SRd14 SRef14 SCom14 SAppend14 SSync14 SCut14 SCrash14 SegP15 SLate15 SAdd15 SMend15 Okk14
theorem rg_late {room : Int} {ps : List TF} (seg : Int) (s : ByteArray) (h : OkD room ps) : Rg (lateD room ps seg s) := by
  unfold lateD
  split
  · exact rg_append seg (sealT s) h
  · intro q
    exact absurd rfl q
theorem rg_add {room : Int} {ps : List TF} (seg : Int) (s : ByteArray) (h : OkD room ps) : Rg (addD room ps seg s) := by
  unfold addD
  split
  · rename_i e
    exact rg_sync seg (rg_late seg s h (by rw [e]; decide))
  · exact rg_late seg s h
theorem rg_cut {room : Int} {ps : List TF} (nm n : Int) (h : OkD room ps) : Rg (cutD room ps nm n) := by
  unfold Rg cutD
  by_cases q : (atD room ps nm).2 = 0
  · rw [if_pos q]
    split
    · intro _
      exact Ok14.ok_cut q
    · intro _
      exact ref_ok h (by decide)
  · rw [if_neg q]
    exact fun c => ref_ok h c
theorem rg_mend {room : Int} {ps : List TF} (seg : Int) (h : OkD room ps) : Rg (mendD room ps seg) := by
  unfold mendD
  split
  · exact rg_cut seg _ h
  · intro q
    exact absurd rfl q
theorem rg_crash {room : Int} {ps : List TF} (keep : Int) (h : OkD room ps) : OkD (crashD room ps keep).1 (crashD room ps keep).2 := by
  unfold crashD
  rw [if_pos h]
  exact Ok14.ok_crash keep h
end Go.Proofs.Ytcajdiopgaoicaa.OkS15
namespace Go.Proofs.Ytcajdiopgaoicaa.TabF14
open Go.ChangeShapes Go.WideShapes Go.ChangeAt Go.RowKit Fil14 DiskH14 DkH14 SDk14 SOk14
open Go.Maps (Keyed)
theorem law : Keyed Try.prog 3 := Maps.int_keyed Try.underlying3
/-- A number of 64 bits. -/
def Wf (n : Int) : Prop := (Lit.int .i64 n).wf = true
theorem wf_ok {n : Int} (h : okN n = true) : Wf n := by
  unfold okN at h
  exact WalkArith.wf_i64 (by simp at h; omega)
theorem wf_low {n : Int} (h : 0 ≤ n ∧ n ≤ 21) : Wf n := wf_ok (by unfold okN; simpa using h)
/-- No file. -/
abbrev z0 : TF := (0, ByteArray.empty, ByteArray.empty)
/-- A file as a value. -/
abbrev fV (p : TF) : Value := .agg #[.int .i64 p.1, .string p.2.1, .string p.2.2]
theorem fV_inj {p q : TF} (h : fV p = fV q) : p = q := by
  obtain ⟨a, b, c⟩ := p
  obtain ⟨d, e, f⟩ := q
  simp [fV] at h
  simp [h]
theorem zero (w : World) : (zeroValue 54).run Try.prog w = .ok (fV z0) w := by kernel_rfl
open Classical in
/-- How a file reads in a table. -/
noncomputable def rF (v : Value) : Option (DataW TF × List MemPlace) := if h : ∃ p, v = fV p then some (.held h.choose, []) else none
theorem rF_mk (p : TF) : rF (fV p) = some (.held p, []) := by
  unfold rF
  have h : ∃ q, fV p = fV q := ⟨p, rfl⟩
  rw [dif_pos h, ← fV_inj h.choose_spec]
theorem rF_inv {v : Value} {d : DataW TF} {ps : List MemPlace} (h : rF v = some (d, ps)) : ∃ p, v = fV p ∧ d = .held p := by
  unfold rF at h
  split at h
  · rename_i q
    have e : DataW.held q.choose = d := by simpa using congrArg (fun o => o.map (·.1)) h
    exact ⟨q.choose, q.choose_spec, e.symm⟩
  · cases h
theorem key_of {n : Int} (h : Wf n) : keyOf Try.prog 3 (.int .i64 n) = some (.int .i64 n) := Maps.keyOf_int_mk Try.underlying3 h
/-- A table with one entry turned. -/
def upd (f : Int → Option TF) (k : Int) (p : Option TF) : Int → Option TF := fun j => if j = k then p else f j
/-- Block B is a table of at most n entries that tells f. -/
def Tf (w : World) (B n : Nat) (f : Int → Option TF) : Prop := ∃ D : DataW TF, w.ownsMap Try.prog 3 rF B n D ∧ ∀ k, Wf k → D.atKey (.int .i64 k) (.held z0) = .held ((f k).getD z0) ∧ Maps.has D (.int .i64 k) = (f k).isSome
theorem tf_made (w : World) : Tf (w.alloc (.map #[] 0)) w.heap.size 0 (fun _ => none) :=
  ⟨.map [], World.ownsMap_made _ _ _ _, fun k h => ⟨rfl, rfl⟩⟩
theorem Tf.lt {w : World} {B n : Nat} {f : Int → Option TF} (h : Tf w B n f) : B < w.heap.size := by
  obtain ⟨D, h1, _⟩ := h
  exact h1.lt
theorem Tf.kept {w w' : World} {B n : Nat} {f : Int → Option TF} {row : Option Nat} (h : Tf w B n f) (hg : w.grownBy w' row) (hne : some B ≠ row) : Tf w' B n f := by
  obtain ⟨D, h1, h2⟩ := h
  exact ⟨D, h1.kept hg hne, h2⟩
theorem below_grown {w w' : World} (h : Below w.heap.size w w') : w.grownBy w' none := ⟨h.os, h.tape, h.output, h.size, fun k hk _ => h.block k hk⟩
theorem Tf.below {w w' : World} {B n : Nat} {f : Int → Option TF} (h : Tf w B n f) (k : Below w.heap.size w w') : Tf w' B n f := h.kept (below_grown k) (by simp)
theorem Tf.drew {w : World} {B n : Nat} {f : Int → Option TF} (h : Tf w B n f) : Tf w.drew B n f := h.below (Below.refl _ _).drew
theorem isMap_of {w : World} {B n : Nat} {D : DataW TF} (h : w.ownsMap Try.prog 3 rF B n D) : Maps.IsMap D := by
  obtain ⟨es, clock, _, _, _, rfl⟩ := h
  exact ⟨_, rfl⟩
theorem key_ne {j k : Int} (h : j ≠ k) : Lit.int .i64 j ≠ Lit.int .i64 k := fun e => h (by simpa using e)
/-- A look-up that asks whether there is one. -/
theorem wp_have (w : World) {ops : Array Oper} {rest : List Oper} {o : Oper} {s : Act} {Q : Exit → Act → World → Prop}
    (hg : o.guard = none) (m x : Operand) (hop : o.op = Op.lookup 62 m x true) (B n : Nat) (f : Int → Option TF) (hm : s.eval m = .map (some B)) (hown : Tf w B n f) (k : Int) (hx : s.eval x = .int .i64 k) (hw : Wf k)
    (p : TF) (b : Bool) (hp : (f k).getD z0 = p) (hb : (f k).isSome = b)
    (hK : wpList Try.prog ops Q rest (s.put o.dst (.tuple #[.agg #[.int .i64 p.1, .string p.2.1, .string p.2.2], .bool b])) w) : wpList Try.prog ops Q (o :: rest) s w := by
  obtain ⟨D, h1, h2⟩ := hown
  subst hp hb
  refine wpList_lookup_own_ok w hg m x 62 hop 3 54 law Try.underlying62 rF (zero w) (.held z0) [] (rF_mk z0) B n D hm h1 _ (.int .i64 k) hx (key_of hw) ?_
  intro v ps hv
  obtain ⟨p, rfl, e⟩ := rF_inv hv
  rw [(h2 k hw).1] at e
  have e' : (f k).getD z0 = p := by simpa using e
  rw [(h2 k hw).2, ← e']
  exact hK
/-- A look-up. -/
theorem wp_look (w : World) {ops : Array Oper} {rest : List Oper} {o : Oper} {s : Act} {Q : Exit → Act → World → Prop}
    (hg : o.guard = none) (m x : Operand) (hop : o.op = Op.lookup 62 m x false) (B n : Nat) (f : Int → Option TF) (hm : s.eval m = .map (some B)) (hown : Tf w B n f) (k : Int) (hx : s.eval x = .int .i64 k) (hw : Wf k)
    (p : TF) (hp : (f k).getD z0 = p)
    (hK : wpList Try.prog ops Q rest (s.put o.dst (.agg #[.int .i64 p.1, .string p.2.1, .string p.2.2])) w) : wpList Try.prog ops Q (o :: rest) s w := by
  obtain ⟨D, h1, h2⟩ := hown
  subst hp
  refine wpList_plain hg fun K' hK' => ?_
  obtain ⟨v, ps, hrun, hv⟩ := h1.lookup law Try.underlying62 (zero w) (rF_mk z0) (key_of hw)
  obtain ⟨p, rfl, e⟩ := rF_inv hv
  rw [(h2 k hw).1] at e
  have e' : (f k).getD z0 = p := by simpa using e
  rw [← e'] at hrun
  unfold Oper.wp
  simp [execOp, hop, hm, hx, hrun, Result.andThen]
  exact hK' _ _ hK
/-- A store. -/
theorem wp_put (w : World) {ops : Array Oper} {rest : List Oper} {o : Oper} {s : Act} {Q : Exit → Act → World → Prop}
    (hg : o.guard = none) (m x y : Operand) (hop : o.op = Op.mapUpdate 62 m x y) (B n : Nat) (f : Int → Option TF) (hm : s.eval m = .map (some B)) (hown : Tf w B n f) (hn : n ≤ 1048576) (k : Int) (p : TF) (hx : s.eval x = .int .i64 k) (hy : s.eval y = .agg #[.int .i64 p.1, .string p.2.1, .string p.2.2]) (hw : Wf k)
    (hK : ∀ w', Tf w' B (n + 1) (upd f k (some p)) → w.grownBy w' (some B) → wpList Try.prog ops Q rest (s.put o.dst undef) w') : wpList Try.prog ops Q (o :: rest) s w := by
  obtain ⟨D, h1, h2⟩ := hown
  refine wpList_mapUpdate_own w hg m x y 62 hop 3 54 law Try.underlying62 rF B n D hm h1 (by unfold maxLen; omega) _ _ (.int .i64 k) hx hy (key_of hw) (.held p) [] (rF_mk p) ?_
  intro w' h3 h4
  refine hK w' ⟨_, h3, fun j hj => ?_⟩ h4
  unfold upd
  by_cases e : j = k
  · subst e
    rw [if_pos rfl, Maps.atKey_put_same (isMap_of h1) (law.key (key_of hw)), Maps.has_put_same (isMap_of h1) (law.key (key_of hw))]
    exact ⟨rfl, rfl⟩
  · rw [if_neg e, Maps.atKey_put_other (key_ne e), Maps.has_put_other (key_ne e)]
    exact h2 j hj
/-- The table of the first k files. -/
def tabN (ps : List TF) : Nat → Int → Option TF
  | 0 => fun _ => none
  | k + 1 => upd (tabN ps k) (elF ps k).1 (some (elF ps k))
/-- The table of files. -/
def tabOf (ps : List TF) : Int → Option TF := tabN ps ps.length
/-- The files of the names below k. -/
def rowN (f : Int → Option TF) : Nat → List TF
  | 0 => []
  | k + 1 => rowN f k ++ (f k).toList
/-- All files. -/
def rowF (f : Int → Option TF) : List TF := rowN f 22
end Go.Proofs.Ytcajdiopgaoicaa.TabF14
namespace Go.Proofs.Ytcajdiopgaoicaa.ITb14
open Go.ChangeShapes Go.WideShapes Go.ChangeAt Go.RowKit Fil14 DiskH14 DkH14 SDk14 SOk14 SLess14 TabF14
theorem wd_grown {w wr wz : World} {x : Dx} {B : Nat} (h : Wd w wr x) (k : wr.grownBy wz (some B)) (hB : w.heap.size < B) (hx : ∀ g, x.a = some ⟨g, 0, none⟩ → g ≠ B) : Wd w wz x := by
  refine ⟨(App14.kcell k 0 h.lt (by omega)).trans h.c0, (App14.kcell k 1 h.lt (by omega)).trans h.c1, Nat.lt_of_lt_of_le h.lt k.size, grow_low h.b k ⟨by omega, Nat.le_of_lt h.lt⟩, ⟨h.r.e, fun g e => ?_, h.r.n⟩⟩
  obtain ⟨l, a⟩ := h.r.r g e
  have c := fun o => App14.kcell k o l (hx g e)
  refine ⟨Nat.lt_of_lt_of_le l k.size, fun i hi => ?_⟩
  obtain ⟨a0, a1, a2⟩ := a i hi
  exact ⟨(c _).trans a0, (c _).trans a1, (c _).trans a2⟩
set_option maxRecDepth 100000 in
set_option maxHeartbeats 4000000 in
theorem iTable (w : World) (x : Dx) (hr : RdD w x) (hn : ∀ i, i < x.ps.length → Wf (elF x.ps i).1) :
    Calls Try.prog 41 #[.agg #[.int .i64 x.room, .slice x.a x.ps.length x.c]] w fun e w' => e = .returned (.map (some (w.heap.size + 1))) ∧ Tf w' (w.heap.size + 1) x.ps.length (tabOf x.ps) ∧ Below w.heap.size w w' := by
  have W1 := Wd.made hr 26
  have XA := hide (fun g e => (hr.r g e).1)
  have h20 := hr.n
  have HN := hide hn
  clear hr hn
  have S1 : (w.alloc (.cells #[.int .i64 x.room, .slice x.a x.ps.length x.c] 26)).heap.size = w.heap.size + 1 := by simp
  have T0 := tf_made (w.alloc (.cells #[.int .i64 x.room, .slice x.a x.ps.length x.c] 26))
  rw [S1] at T0
  have G0 := hide (And.intro (W1.step (one_more _ (.map #[] 0))) T0)
  have hmm := @run_makeMap Try.prog
  clear W1 S1 T0
  go_enter Try.func41, Try.ntmps41
  go_wp2
  go_loopw [10] (fun i wr => ∃ (k : Nat), k ≤ x.ps.length ∧ i = .int .i64 k ∧ Hid (Wd w wr x) ∧ Hid (Tf wr (w.heap.size + 1) k (tabN x.ps k))) (fun i _ => x.ps.length - (intOf i).toNat)
  case atStart => exact ⟨0, by omega, rfl, hide (unhide G0).1, hide (unhide G0).2⟩
  case round =>
    clear G0
    obtain ⟨k, hk, rfl, HW, HT⟩ := hrel
    by_cases t : k < x.ps.length
    · have kt : (k : Int) < x.ps.length := by omega
      obtain ⟨g, ea, lg, e0, e1, e2⟩ := cells_of (unhide HW).r t
      have lt := (unhide HW).lt
      have IX := SCom14.ixF x.c ea t
      have WF := (unhide HN) k t
      have PR : elF x.ps k = ((elF x.ps k).1, (elF x.ps k).2.1, (elF x.ps k).2.2) := rfl
      have TE := hide (show tabN x.ps (k + 1) = upd (tabN x.ps k) (elF x.ps k).1 (some ((elF x.ps k).1, (elF x.ps k).2.1, (elF x.ps k).2.2)) from rfl)
      generalize tabN x.ps k = f at *
      clear PR
      generalize (elF x.ps k).1 = z0 at *
      generalize (elF x.ps k).2.1 = z1 at *
      generalize (elF x.ps k).2.2 = z2 at *
      clear ea
      have OB := one_more wr (.cells #[.int .i64 z0, .string z1, .string z2] 54)
      have HW2 := hide ((unhide HW).step OB)
      have HT2 := hide ((unhide HT).below OB)
      clear OB HW HT
      go_wp2_with (first | (at_mapUpdate; refine wp_put _ rfl _ _ _ rfl (w.heap.size + 1) k _ rfl (unhide HT2) (by omega) z0 (z0, z1, z2) rfl rfl WF ?_; intro w1 t1 g1) | go_in)
      go_roundw
      case rel => exact ⟨k + 1, by omega, by go_num, hide (wd_grown (unhide HW2) g1 (by omega) (fun g e => by have := (unhide XA) g e; omega)), hide (by rw [unhide TE]; exact t1)⟩
      case measure => simp [intOf]; omega
    · have e : k = x.ps.length := by omega
      have kt : ¬ (k : Int) < x.ps.length := by omega
      subst e
      go_wp2
      go_ret
      exact ⟨rfl, unhide HT, (unhide HW).b⟩
end Go.Proofs.Ytcajdiopgaoicaa.ITb14
namespace Go.Proofs.Ytcajdiopgaoicaa.SFrom15
open Go.ChangeShapes Go.WideShapes Go.ChangeAt Go.RowKit Fil14 DiskH14 DkH14 SDk14 SOk14 SRd14 SegP15 SSeg15
open App14 (kcell)
open SLess14 (grow_low)
theorem sAfter (w : World) (n : Int) (h : 0 ≤ n ∧ n ≤ 19) : Calls Try.prog 66 #[.int .i64 n] w fun e w' => e = .returned (.int .i64 ((n + 1) % 20)) ∧ w' = w := by
  have a1 : wrap64 (n + 1) = n + 1 := by rw [wrap64]; omega
  have E : wrap64 ((n + 1).tmod 20) = (n + 1) % 20 := by rw [Int.tmod_eq_emod_of_nonneg (by omega), wrap64]; omega
  go_enter Try.func66, Try.ntmps66
  go_wp2
  go_ret
  exact ⟨by first | rfl | (congr 2; first | exact E | (rw [Int.tmod_eq_emod_of_nonneg (by omega)])), rfl⟩
end Go.Proofs.Ytcajdiopgaoicaa.SFrom15
namespace Go.Proofs.Ytcajdiopgaoicaa.DrawG15
open Go.ChangeShapes Go.WideShapes Go.ChangeAt Go.RowKit Draw Draw11 DrawS11 DrawT14
open Fil14 (TF elF flatF)
open DiskH14 (sumZ one_more)
open DkH14 (Dx RdD OwD Bc)
open SOk14 (OkD okN)
open App14 (row_base row_kept kcell grow_grow)
open SLess14 (bc_set1)
open SCom14 (ToldD)
open Okk14 (Rg)
open DrawR14 (row_only row_ne Dw)
open DrawD14 (Sm drawDisk)
open SLate15 (lateD)
open SAdd15 (addD)
open SMend15 (mendD)
open SCrash14 (crashD)
abbrev oR13_0 : Oper := { dst := some 36, op := Go.Op.load 26 (Go.Operand.tmp 3), type := 26, pos := "l15_segment.go:85", after := #[], guard := none }
abbrev oR13_1 : Oper := { dst := some 37, op := Go.Op.move (Go.Operand.tmp 4), type := 3, pos := "l15_segment.go:85", after := #[], guard := none }
abbrev oR13_2 : Oper := { dst := some 38, op := Go.Op.move (Go.Operand.tmp 0), type := 55, pos := "l15_segment.go:85", after := #[], guard := none }
abbrev oR13_3 : Oper := { dst := some 39, op := Go.Op.call { callee := Go.Callee.value (Go.Operand.func 52), args := #[Go.Operand.tmp 38, Go.Operand.const (Go.Value.int Go.IntKind.i64 5)], argTypes := #[55, 3] }, type := 9, pos := "l15_segment.go:85", after := #[{ on := 2, ground := Go.Ground.data }], guard := none }
abbrev oR13_4 : Oper := { dst := some 40, op := Go.Op.call { callee := Go.Callee.value (Go.Operand.func 11), args := #[Go.Operand.tmp 36, Go.Operand.tmp 37, Go.Operand.tmp 39], argTypes := #[26, 3, 9] }, type := 29, pos := "l15_segment.go:85", after := #[{ on := 0, ground := Go.Ground.data }, { on := 1, ground := Go.Ground.data }, { on := 3, ground := Go.Ground.data }, { on := 3, ground := Go.Ground.chain }], guard := none }
abbrev oR13_5 : Oper := { dst := some 35, op := Go.Op.move (Go.Operand.tmp 40), type := 29, pos := "l15_segment.go:85", after := #[{ on := 4, ground := Go.Ground.data }], guard := none }
abbrev oR13_6 : Oper := { dst := some 41, op := Go.Op.extract (Go.Operand.tmp 35) 0, type := 26, pos := "l15_segment.go:85", after := #[{ on := 5, ground := Go.Ground.data }], guard := none }
abbrev oR13_7 : Oper := { dst := some 42, op := Go.Op.extract (Go.Operand.tmp 35) 1, type := 3, pos := "l15_segment.go:85", after := #[{ on := 5, ground := Go.Ground.data }, { on := 8, ground := Go.Ground.gcOnly Go.Departure.lateStores }], guard := none }
abbrev oR13_8 : Oper := { dst := none, op := Go.Op.store 26 (Go.Operand.tmp 6) (Go.Operand.tmp 41), type := 0, pos := "l15_segment.go:85", after := #[{ on := 6, ground := Go.Ground.data }, { on := 4, ground := Go.Ground.chain }, { on := 0, ground := Go.Ground.phase }, { on := 1, ground := Go.Ground.phase }, { on := 2, ground := Go.Ground.phase }, { on := 3, ground := Go.Ground.phase }, { on := 4, ground := Go.Ground.phase }, { on := 5, ground := Go.Ground.phase }, { on := 6, ground := Go.Ground.phase }, { on := 7, ground := Go.Ground.textOnly Go.Departure.lateStores }], guard := none }
abbrev oR13_9 : Oper := { dst := some 7, op := Go.Op.assign (Go.Operand.tmp 42), type := 3, pos := "l15_segment.go:85", after := #[{ on := 7, ground := Go.Ground.data }, { on := 8, ground := Go.Ground.chain }, { on := 0, ground := Go.Ground.phase }, { on := 1, ground := Go.Ground.phase }, { on := 2, ground := Go.Ground.phase }, { on := 3, ground := Go.Ground.phase }, { on := 4, ground := Go.Ground.phase }, { on := 5, ground := Go.Ground.phase }, { on := 6, ground := Go.Ground.phase }, { on := 7, ground := Go.Ground.phase }, { on := 8, ground := Go.Ground.phase }], guard := none }
abbrev oR16_0 : Oper := { dst := some 48, op := Go.Op.load 26 (Go.Operand.tmp 3), type := 26, pos := "l15_segment.go:88", after := #[], guard := none }
abbrev oR16_1 : Oper := { dst := some 49, op := Go.Op.move (Go.Operand.tmp 4), type := 3, pos := "l15_segment.go:88", after := #[], guard := none }
abbrev oR16_2 : Oper := { dst := some 50, op := Go.Op.move (Go.Operand.tmp 0), type := 55, pos := "l15_segment.go:88", after := #[], guard := none }
abbrev oR16_3 : Oper := { dst := some 51, op := Go.Op.call { callee := Go.Callee.value (Go.Operand.func 52), args := #[Go.Operand.tmp 50, Go.Operand.const (Go.Value.int Go.IntKind.i64 5)], argTypes := #[55, 3] }, type := 9, pos := "l15_segment.go:88", after := #[{ on := 2, ground := Go.Ground.data }], guard := none }
abbrev oR16_4 : Oper := { dst := some 52, op := Go.Op.call { callee := Go.Callee.value (Go.Operand.func 11), args := #[Go.Operand.tmp 48, Go.Operand.tmp 49, Go.Operand.tmp 51], argTypes := #[26, 3, 9] }, type := 29, pos := "l15_segment.go:88", after := #[{ on := 0, ground := Go.Ground.data }, { on := 1, ground := Go.Ground.data }, { on := 3, ground := Go.Ground.data }, { on := 3, ground := Go.Ground.chain }], guard := none }
abbrev oR16_5 : Oper := { dst := some 47, op := Go.Op.move (Go.Operand.tmp 52), type := 29, pos := "l15_segment.go:88", after := #[{ on := 4, ground := Go.Ground.data }], guard := none }
abbrev oR16_6 : Oper := { dst := some 53, op := Go.Op.extract (Go.Operand.tmp 47) 0, type := 26, pos := "l15_segment.go:88", after := #[{ on := 5, ground := Go.Ground.data }], guard := none }
abbrev oR16_7 : Oper := { dst := some 54, op := Go.Op.extract (Go.Operand.tmp 47) 1, type := 3, pos := "l15_segment.go:88", after := #[{ on := 5, ground := Go.Ground.data }, { on := 8, ground := Go.Ground.gcOnly Go.Departure.lateStores }], guard := none }
abbrev oR16_8 : Oper := { dst := none, op := Go.Op.store 26 (Go.Operand.tmp 6) (Go.Operand.tmp 53), type := 0, pos := "l15_segment.go:88", after := #[{ on := 6, ground := Go.Ground.data }, { on := 4, ground := Go.Ground.chain }, { on := 0, ground := Go.Ground.phase }, { on := 1, ground := Go.Ground.phase }, { on := 2, ground := Go.Ground.phase }, { on := 3, ground := Go.Ground.phase }, { on := 4, ground := Go.Ground.phase }, { on := 5, ground := Go.Ground.phase }, { on := 6, ground := Go.Ground.phase }, { on := 7, ground := Go.Ground.textOnly Go.Departure.lateStores }], guard := none }
abbrev oR16_9 : Oper := { dst := some 7, op := Go.Op.assign (Go.Operand.tmp 54), type := 3, pos := "l15_segment.go:88", after := #[{ on := 7, ground := Go.Ground.data }, { on := 8, ground := Go.Ground.chain }, { on := 0, ground := Go.Ground.phase }, { on := 1, ground := Go.Ground.phase }, { on := 2, ground := Go.Ground.phase }, { on := 3, ground := Go.Ground.phase }, { on := 4, ground := Go.Ground.phase }, { on := 5, ground := Go.Ground.phase }, { on := 6, ground := Go.Ground.phase }, { on := 7, ground := Go.Ground.phase }, { on := 8, ground := Go.Ground.phase }], guard := none }
abbrev oR18_0 : Oper := { dst := some 58, op := Go.Op.load 26 (Go.Operand.tmp 3), type := 26, pos := "l15_segment.go:90", after := #[], guard := none }
abbrev oR18_1 : Oper := { dst := some 59, op := Go.Op.move (Go.Operand.tmp 4), type := 3, pos := "l15_segment.go:90", after := #[], guard := none }
abbrev oR18_2 : Oper := { dst := some 60, op := Go.Op.move (Go.Operand.tmp 0), type := 55, pos := "l15_segment.go:90", after := #[], guard := none }
abbrev oR18_3 : Oper := { dst := some 61, op := Go.Op.call { callee := Go.Callee.value (Go.Operand.func 52), args := #[Go.Operand.tmp 60, Go.Operand.const (Go.Value.int Go.IntKind.i64 5)], argTypes := #[55, 3] }, type := 9, pos := "l15_segment.go:90", after := #[{ on := 2, ground := Go.Ground.data }], guard := none }
abbrev oR18_4 : Oper := { dst := some 62, op := Go.Op.call { callee := Go.Callee.value (Go.Operand.func 31), args := #[Go.Operand.tmp 58, Go.Operand.tmp 59, Go.Operand.tmp 61], argTypes := #[26, 3, 9] }, type := 29, pos := "l15_segment.go:90", after := #[{ on := 0, ground := Go.Ground.data }, { on := 1, ground := Go.Ground.data }, { on := 3, ground := Go.Ground.data }, { on := 3, ground := Go.Ground.chain }], guard := none }
abbrev oR18_5 : Oper := { dst := some 57, op := Go.Op.move (Go.Operand.tmp 62), type := 29, pos := "l15_segment.go:90", after := #[{ on := 4, ground := Go.Ground.data }], guard := none }
abbrev oR18_6 : Oper := { dst := some 63, op := Go.Op.extract (Go.Operand.tmp 57) 0, type := 26, pos := "l15_segment.go:90", after := #[{ on := 5, ground := Go.Ground.data }], guard := none }
abbrev oR18_7 : Oper := { dst := some 64, op := Go.Op.extract (Go.Operand.tmp 57) 1, type := 3, pos := "l15_segment.go:90", after := #[{ on := 5, ground := Go.Ground.data }, { on := 8, ground := Go.Ground.gcOnly Go.Departure.lateStores }], guard := none }
abbrev oR18_8 : Oper := { dst := none, op := Go.Op.store 26 (Go.Operand.tmp 6) (Go.Operand.tmp 63), type := 0, pos := "l15_segment.go:90", after := #[{ on := 6, ground := Go.Ground.data }, { on := 4, ground := Go.Ground.chain }, { on := 0, ground := Go.Ground.phase }, { on := 1, ground := Go.Ground.phase }, { on := 2, ground := Go.Ground.phase }, { on := 3, ground := Go.Ground.phase }, { on := 4, ground := Go.Ground.phase }, { on := 5, ground := Go.Ground.phase }, { on := 6, ground := Go.Ground.phase }, { on := 7, ground := Go.Ground.textOnly Go.Departure.lateStores }], guard := none }
abbrev oR18_9 : Oper := { dst := some 7, op := Go.Op.assign (Go.Operand.tmp 64), type := 3, pos := "l15_segment.go:90", after := #[{ on := 7, ground := Go.Ground.data }, { on := 8, ground := Go.Ground.chain }, { on := 0, ground := Go.Ground.phase }, { on := 1, ground := Go.Ground.phase }, { on := 2, ground := Go.Ground.phase }, { on := 3, ground := Go.Ground.phase }, { on := 4, ground := Go.Ground.phase }, { on := 5, ground := Go.Ground.phase }, { on := 6, ground := Go.Ground.phase }, { on := 7, ground := Go.Ground.phase }, { on := 8, ground := Go.Ground.phase }], guard := none }
abbrev oR20_0 : Oper := { dst := some 67, op := Go.Op.load 26 (Go.Operand.tmp 3), type := 26, pos := "l15_segment.go:92", after := #[], guard := none }
abbrev oR20_1 : Oper := { dst := some 68, op := Go.Op.move (Go.Operand.tmp 0), type := 55, pos := "l15_segment.go:92", after := #[], guard := none }
abbrev oR20_2 : Oper := { dst := some 69, op := Go.Op.call { callee := Go.Callee.value (Go.Operand.func 38), args := #[Go.Operand.tmp 68, Go.Operand.const (Go.Value.int Go.IntKind.i64 20)], argTypes := #[55, 3] }, type := 3, pos := "l15_segment.go:92", after := #[{ on := 1, ground := Go.Ground.data }], guard := none }
abbrev oR20_3 : Oper := { dst := some 70, op := Go.Op.call { callee := Go.Callee.value (Go.Operand.func 67), args := #[Go.Operand.tmp 67, Go.Operand.tmp 69], argTypes := #[26, 3] }, type := 26, pos := "l15_segment.go:92", after := #[{ on := 0, ground := Go.Ground.data }, { on := 2, ground := Go.Ground.data }, { on := 2, ground := Go.Ground.chain }], guard := none }
abbrev oR20_4 : Oper := { dst := none, op := Go.Op.store 26 (Go.Operand.tmp 6) (Go.Operand.tmp 70), type := 0, pos := "l15_segment.go:92", after := #[{ on := 3, ground := Go.Ground.data }, { on := 3, ground := Go.Ground.chain }, { on := 0, ground := Go.Ground.phase }, { on := 1, ground := Go.Ground.phase }, { on := 2, ground := Go.Ground.phase }, { on := 3, ground := Go.Ground.phase }], guard := none }
/-- One of four numbers. -/
def of4 (p q r s : Int) (j : Nat) : Int := if j = 0 then p else if j = 1 then q else if j = 2 then r else s
theorem of4_cells (u : World) (e : TypeId) (p q r s : Int) (j : Nat) (h : j < 4) : (u.alloc (.cells #[.int .i64 p, .int .i64 q, .int .i64 r, .int .i64 s] e)).cell? ⟨u.heap.size, j, none⟩ = some (.int .i64 (of4 p q r s j)) := by
  have : j = 0 ∨ j = 1 ∨ j = 2 ∨ j = 3 := by omega
  rcases this with rfl | rfl | rfl | rfl <;> simp [of4]
set_option maxRecDepth 100000 in
set_option maxHeartbeats 8000000 in
theorem drawSegs (w0 w : World) (c : Nat) (a : Option Addr) (len cap : Nat) (hl : len ≤ 1048576) (hcode : CodeAt w0 a len) (h : Cur w0 w c a len cap) :
    Calls Try.prog 37 #[.pointer (some ⟨c, 0, none⟩)] w fun e w' => ∃ y : Dx, Sm y ∧ e = .returned (.agg #[.int .i64 y.room, .slice y.a y.ps.length y.c]) ∧ OwD w' w.heap.size y ∧ Moved w0 w w' c a len cap := by
  have HC := hide hcode
  have hc := h.hi
  have hs := h.bel.size
  have M1 := hide (moved_alloc (moved_start h) #[.int .i64 0, .slice none 0 0] 26)
  have R1 := hide (show Bc (w.alloc (.cells #[.int .i64 0, .slice none 0 0] 26)) w.heap.size w.heap.size (.int .i64 0) (.slice none 0 0) from Bc.made _ _ (Nat.le_refl _) rfl)
  clear hcode h
  go_enter Try.func37, Try.ntmps37
  go_wp2_with fail
  refine (below w0 _ c a len cap 300 hl (unhide HC) (unhide M1).1 (by omega)).mono ?_
  rintro e u1 ⟨⟨r0, r00, r01, rfl⟩, mv⟩
  have M2 := hide ((unhide M1).trans mv)
  have R2 := hide (show Bc u1 w.heap.size w.heap.size (.int .i64 0) (.slice none 0 0) from row_only (unhide R1) mv.2 hc)
  have wr1 : wrap64 (300 + r0) = 300 + r0 := by rw [wrap64]; omega
  have wr2 : IntKind.i64.wrap (300 + r0) = 300 + r0 := by rw [IntKind.wrap_i64]; omega
  clear mv M1 R1
  have D1 := hide (show Dw w0 w (u1.alloc (.cells #[.int .i64 (300 + r0), .slice none 0 0] 26)) c u1.heap.size a len cap ⟨300 + r0, none, 0, []⟩ from
    ⟨moved_alloc (unhide M2) _ _, Bc.made _ _ (Nat.le_of_lt (unhide R2).lt.2) rfl, ⟨rfl, .inl ⟨rfl, rfl⟩⟩, ⟨⟨by show 0 ≤ 300 + r0; omega, by show 300 + r0 ≤ 60000; omega⟩, by simp, by show (0 : Int) ≤ 300 + r0; omega, fun i hi => absurd hi (by simp)⟩, Bc.below (unhide R2) (one_more _ _) (unhide R2).lt.2, by have := (unhide R2).lt.2; omega⟩)
  have s1 : (u1.alloc (.cells #[.int .i64 (300 + r0), .slice none 0 0] 26)).heap.size = u1.heap.size + 1 := by simp
  have OC := hide (fun j hj => of4_cells (u1.alloc (.cells #[.int .i64 (300 + r0), .slice none 0 0] 26)) 3 0 0 18 19 j hj)
  rw [s1] at OC
  have D3 := hide ((unhide D1).below (one_more (u1.alloc (.cells #[.int .i64 (300 + r0), .slice none 0 0] 26)) (.cells #[.int .i64 0, .int .i64 0, .int .i64 18, .int .i64 19] 3)))
  have hu := (unhide R2).lt.2
  have SZ : u1.heap.size + 1 < ((u1.alloc (.cells #[.int .i64 (300 + r0), .slice none 0 0] 26)).alloc (.cells #[.int .i64 0, .int .i64 0, .int .i64 18, .int .i64 19] 3)).heap.size := by simp
  have SZH := hide SZ
  clear SZ s1 D1
  go_wp2_with fail
  refine (pick w0 _ c a len cap (u1.heap.size + 1) 4 (of4 0 0 18 19) hl (unhide HC) (unhide D3).m.1 (by omega) (by omega) (unhide SZH) (by omega) (unhide OC)).mono ?_
  rintro e u3 ⟨⟨j, hj, rfl⟩, mv⟩
  have D4 := hide ((unhide D3).moved mv hc)
  have B := hide (show 0 ≤ of4 0 0 18 19 j ∧ of4 0 0 18 19 j ≤ 19 from by unfold of4; split <;> (try split) <;> (try split) <;> omega)
  clear mv hj D3 wr1 wr2 OC SZH M2 R2
  generalize of4 0 0 18 19 j = sg0 at *
  generalize u1.heap.size = bd at *
  obtain ⟨g00, g01⟩ := unhide B
  go_wp2
  go_loopw [4, 5, 6, 7] (fun s i _ _ wr => ∃ (k : Nat) (x : Dx) (sg : Int), s = .int .i64 sg ∧ i = .int .i64 k ∧ k ≤ 12 ∧ 0 ≤ sg ∧ sg ≤ 19 ∧ Hid (Dw w0 w wr c bd a len cap x)) (fun _ i _ _ _ => 12 - (intOf i).toNat)
  case atStart => exact ⟨0, _, sg0, rfl, rfl, by omega, g00, g01, D4⟩
  case round =>
    clear D4 B g00 g01
    obtain ⟨k, x, sg, rfl, rfl, hk, sg0', sg1', DX⟩ := hrel
    go_wp2_with fail
    refine (below w0 wr c a len cap 12 hl (unhide HC) (unhide DX).m.1 (by omega)).mono ?_
    rintro e v0 ⟨⟨y, y0, y1, rfl⟩, mv⟩
    have D7 := hide ((unhide DX).moved mv hc)
    clear mv DX
    by_cases q : (k : Int) < y
    · have kl : k < 12 := by omega
      have b0 := (unhide D7).bx.c0
      have b1 := (unhide D7).bx.c1
      have D8 := hide ((unhide D7).below (one_more v0 (.cells #[.int .i64 x.room, .slice x.a x.ps.length x.c] 26)))
      have N8 := hide (show Bc (v0.alloc (.cells #[.int .i64 x.room, .slice x.a x.ps.length x.c] 26)) w.heap.size v0.heap.size (.int .i64 x.room) (.slice x.a x.ps.length x.c) from Bc.made _ _ (Nat.le_of_lt (unhide D7).rb.lt.2) rfl)
      have bnl := (unhide D7).bx.lt.2
      have rbl := (unhide D7).rb.lt.2
      go_wp2_with fail
      refine (below w0 _ c a len cap 8 hl (unhide HC) (unhide D8).m.1 (by omega)).mono ?_
      rintro e v ⟨⟨sw, sw0, sw1, rfl⟩, mv⟩
      have DV := hide ((unhide D8).moved mv hc)
      have Nv := hide (show Bc v w.heap.size v0.heap.size (.int .i64 x.room) (.slice x.a x.ps.length x.c) from row_only (unhide N8) mv.2 hc)
      clear mv D7 D8 N8 b0 b1
      have Dv := DV
      generalize v0.heap.size = bn at *
      obtain ⟨n0, hn0⟩ : ∃ n0, Hid (x.room = n0) := ⟨_, rfl⟩
      obtain ⟨n1, hn1⟩ : ∃ n1, Hid (x.a = n1) := ⟨_, rfl⟩
      obtain ⟨n2, hn2⟩ : ∃ n2, Hid (x.ps.length = n2) := ⟨_, rfl⟩
      obtain ⟨n3, hn3⟩ : ∃ n3, Hid (x.c = n3) := ⟨_, rfl⟩
      rw [unhide hn0, unhide hn1, unhide hn2, unhide hn3] at Nv
      clear hn0 hn1 hn2 hn3
      have : sw = 0 ∨ sw = 1 ∨ sw = 2 ∨ sw = 3 ∨ sw = 4 ∨ sw = 5 ∨ sw = 6 ∨ sw = 7 := by omega
      rcases this with rfl | rfl | rfl | rfl | rfl | rfl | rfl | rfl
      · have K0 : v.cell? ⟨bd, 0, none⟩ = some (.int .i64 x.room) ∧ v.cell? ⟨bd, 1, none⟩ = some (.slice x.a x.ps.length x.c) := ⟨(unhide DV).bx.c0, (unhide DV).bx.c1⟩
        go_wp2_with fail
        refine wp_region_held_drew (S := (fun w' => w'.cell? ⟨bd, 0, none⟩ = some (.int .i64 x.room) ∧ w'.cell? ⟨bd, 1, none⟩ = some (.slice x.a x.ps.length x.c))) (by kernel_rfl) K0 (fun hHeld => ?_)
        refine wpAnyH_take (i := 0) (oi := oR13_0) (v := .agg #[.int .i64 x.room, .slice x.a x.ps.length x.c]) rfl (by kernel_rfl) (by kernel_rfl) (by kernel_rfl) (fun _ _ _ h => h) (Or.inl ⟨by rfl, fun w hSw => ?_⟩) hHeld ?_
        · (try dsimp only at hSw)
          unfold oR13_0
          go_simp
        try simp only [oR13_0, Act.put, List.setIfInBounds_toArray, List.set_cons_zero, List.set_cons_succ]
        refine wpAnyH_take (i := 1) (oi := oR13_1) (v := .int .i64 sg) rfl (by kernel_rfl) (by kernel_rfl) (by kernel_rfl) (fun _ _ _ h => h) (Or.inl ⟨by rfl, fun w hSw => ?_⟩) hHeld ?_
        · (try dsimp only at hSw)
          unfold oR13_1
          go_simp
        try simp only [oR13_1, Act.put, List.setIfInBounds_toArray, List.set_cons_zero, List.set_cons_succ]
        refine wpAnyH_take (i := 2) (oi := oR13_2) (v := .pointer (some ⟨c, 0, none⟩)) rfl (by kernel_rfl) (by kernel_rfl) (by kernel_rfl) (fun _ _ _ h => h) (Or.inl ⟨by rfl, fun w hSw => ?_⟩) hHeld ?_
        · (try dsimp only at hSw)
          unfold oR13_2
          go_simp
        try simp only [oR13_2, Act.put, List.setIfInBounds_toArray, List.set_cons_zero, List.set_cons_succ]
        refine wpAnyH_ready (rs := [3]) (by kernel_rfl) (by simp) ?_
        refine AllReadyH.cons (o := oR13_3) rfl (fun K hK => ?_) AllReadyH.nil
        unfold oR13_3
        go_simp
        go_wp2_with fail
        refine (drawText w0 v.drew c a len cap 5 hl (by omega) (unhide HC) (unhide DV).drew.m.1).mono ?_
        rintro e va ⟨⟨tx, tx0, rfl⟩, mv⟩
        have Dva := hide ((unhide DV).drew.moved mv hc)
        have Nva := hide (show Bc va w.heap.size bn (.int .i64 n0) (.slice n1 n2 n3) from row_only (show Bc v.drew w.heap.size bn (.int .i64 n0) (.slice n1 n2 n3) from (unhide Nv)) mv.2 hc)
        have K1 : va.cell? ⟨bd, 0, none⟩ = some (.int .i64 x.room) ∧ va.cell? ⟨bd, 1, none⟩ = some (.slice x.a x.ps.length x.c) := ⟨(unhide Dva).bx.c0, (unhide Dva).bx.c1⟩
        have szva : v.heap.size ≤ va.heap.size := mv.2.1
        clear mv
        go_wp2_with fail
        refine hK.out _ _ K1 (fun hHeld => ?_)
        clear hK K
        try simp only [oR13_3, Act.put, List.setIfInBounds_toArray, List.set_cons_zero, List.set_cons_succ]
        refine wpAnyH_ready (rs := [4]) (by kernel_rfl) (by simp) ?_
        refine AllReadyH.cons (o := oR13_4) rfl (fun K hK => ?_) AllReadyH.nil
        unfold oR13_4
        go_simp
        go_wp2_with fail
        refine (SAdd15.sSegAdd va x (sg) tx (unhide Dva).rd (unhide Dva).sum (by omega)).mono ?_
        rintro e z ⟨y, hy, rfl, oy, bb⟩
        have RG := hide (show (addD x.room x.ps (sg) tx).2 ≠ 1 → OkD y.room y.ps from fun q => by
          have h := OkS15.rg_add (room := x.room) (ps := x.ps) (sg) tx (unhide Dva).ok q
          rw [← hy] at h
          exact h)
        have DZ := hide ((unhide Dva).below bb)
        have NZ := hide (Bc.below (unhide Nva) bb (unhide Nva).lt.2)
        have OY := hide (row_base oy (show w.heap.size ≤ va.heap.size from by have := (unhide Dva).rb.lt.2; omega))
        generalize (addD x.room x.ps (sg) tx).2 = code at *
        have KZ : z.cell? ⟨bd, 0, none⟩ = some (.int .i64 x.room) ∧ z.cell? ⟨bd, 1, none⟩ = some (.slice x.a x.ps.length x.c) := ⟨(unhide DZ).bx.c0, (unhide DZ).bx.c1⟩
        have q0 := (unhide NZ).c0
        have q1 := (unhide NZ).c1
        have t0 := (unhide NZ).free 0
        have t1 := (unhide NZ).free 1
        have st := grow_grow ((unhide NZ).set0 (.int .i64 y.room)).2 (bc_set1 ((unhide NZ).set0 (.int .i64 y.room)).1 (.slice y.a y.ps.length y.c)).2
        have NS := hide (bc_set1 ((unhide NZ).set0 (.int .i64 y.room)).1 (.slice y.a y.ps.length y.c)).1
        have nn := (unhide NZ).lt
        have bln := (unhide DZ).bx.lt.2
        have DS := hide ((unhide DZ).aside st hc hs (by omega) (by omega) (row_ne (unhide NZ) (unhide DZ).ow (by decide) rfl))
        have OS := hide (World.ownsRow.kept (unhide OY) st (.inr (row_ne (unhide NZ) (unhide OY) (by decide) rfl)))
        have KS : ((z.setCell ⟨bn, 0, none⟩ (.int .i64 y.room)).setCell ⟨bn, 1, none⟩ (.slice y.a y.ps.length y.c)).cell? ⟨bd, 0, none⟩ = some (.int .i64 x.room) ∧ ((z.setCell ⟨bn, 0, none⟩ (.int .i64 y.room)).setCell ⟨bn, 1, none⟩ (.slice y.a y.ps.length y.c)).cell? ⟨bd, 1, none⟩ = some (.slice x.a x.ps.length x.c) := ⟨(unhide DS).bx.c0, (unhide DS).bx.c1⟩
        clear st oy bb hy
        go_wp2_with fail
        refine hK.out _ _ KZ (fun hHeld => ?_)
        clear hK K
        try simp only [oR13_4, Act.put, List.setIfInBounds_toArray, List.set_cons_zero, List.set_cons_succ]
        refine wpAnyH_take (i := 5) (oi := oR13_5) (v := .tuple #[.agg #[.int .i64 y.room, .slice y.a y.ps.length y.c], .int .i64 code]) rfl (by kernel_rfl) (by kernel_rfl) (by kernel_rfl) (fun _ _ _ h => h) (Or.inl ⟨by rfl, fun w hSw => ?_⟩) hHeld ?_
        · (try dsimp only at hSw)
          unfold oR13_5
          go_simp
        try simp only [oR13_5, Act.put, List.setIfInBounds_toArray, List.set_cons_zero, List.set_cons_succ]
        refine wpAnyH_take (i := 6) (oi := oR13_6) (v := .agg #[.int .i64 y.room, .slice y.a y.ps.length y.c]) rfl (by kernel_rfl) (by kernel_rfl) (by kernel_rfl) (fun _ _ _ h => h) (Or.inl ⟨by rfl, fun w hSw => ?_⟩) hHeld ?_
        · (try dsimp only at hSw)
          unfold oR13_6
          go_simp
        try simp only [oR13_6, Act.put, List.setIfInBounds_toArray, List.set_cons_zero, List.set_cons_succ]
        refine wpAnyH_take (i := 7) (oi := oR13_7) (v := .int .i64 code) rfl (by kernel_rfl) (by kernel_rfl) (by kernel_rfl) (fun _ _ _ h => h) (Or.inl ⟨by rfl, fun w hSw => ?_⟩) hHeld ?_
        · (try dsimp only at hSw)
          unfold oR13_7
          go_simp
        try simp only [oR13_7, Act.put, List.setIfInBounds_toArray, List.set_cons_zero, List.set_cons_succ]
        refine wpAnyH_ready (rs := [8]) (by kernel_rfl) (by simp) ?_
        refine AllReadyH.cons (o := oR13_8) rfl (fun K hK => ?_) AllReadyH.nil
        unfold oR13_8
        go_simp
        refine hK.out _ _ KS (fun hHeld => ?_)
        clear hK K
        try simp only [oR13_8, Act.put, List.setIfInBounds_toArray, List.set_cons_zero, List.set_cons_succ]
        refine wpAnyH_take (i := 9) (oi := oR13_9) (v := .int .i64 code) rfl (by kernel_rfl) (by kernel_rfl) (by kernel_rfl) (fun _ _ _ h => h) (Or.inl ⟨by rfl, fun w hSw => ?_⟩) hHeld ?_
        · (try dsimp only at hSw)
          unfold oR13_9
          go_simp
        try simp only [oR13_9, Act.put, List.setIfInBounds_toArray, List.set_cons_zero, List.set_cons_succ]
        refine wpAnyH_done (by kernel_rfl) ?_ _
        clear K0 K1 KZ KS q0 q1 t0 t1
        generalize ((z.setCell ⟨bn, 0, none⟩ (.int .i64 y.room)).setCell ⟨bn, 1, none⟩ (.slice y.a y.ps.length y.c)) = zz at *
        have p0 := (unhide NS).c0
        have p1 := (unhide NS).c1
        have d0 := (unhide DS).bx.c0
        have d1 := (unhide DS).bx.c1
        have e0 := (unhide DS).bx.free 0
        have e1 := (unhide DS).bx.free 1
        by_cases q : code = 1
        · have qb : (code != 1) = false := by simpa using q
          clear q
          go_wp2
          go_roundw
          case rel => exact ⟨k + 1, x, sg, rfl, by go_num, by omega, by omega, by omega, DS⟩
          case measure => simp [intOf]; omega
        · have qb : (code != 1) = true := by simpa using q
          have DP := hide ((unhide DS).put hc hs (unhide OS) ((unhide RG) q))
          clear q
          go_wp2
          go_roundw
          case rel => exact ⟨k + 1, y, sg, rfl, by go_num, by omega, by omega, by omega, DP⟩
          case measure => simp [intOf]; omega
      · have K0 : v.cell? ⟨bd, 0, none⟩ = some (.int .i64 x.room) ∧ v.cell? ⟨bd, 1, none⟩ = some (.slice x.a x.ps.length x.c) := ⟨(unhide DV).bx.c0, (unhide DV).bx.c1⟩
        go_wp2_with fail
        refine wp_region_held_drew (S := (fun w' => w'.cell? ⟨bd, 0, none⟩ = some (.int .i64 x.room) ∧ w'.cell? ⟨bd, 1, none⟩ = some (.slice x.a x.ps.length x.c))) (by kernel_rfl) K0 (fun hHeld => ?_)
        refine wpAnyH_take (i := 0) (oi := oR13_0) (v := .agg #[.int .i64 x.room, .slice x.a x.ps.length x.c]) rfl (by kernel_rfl) (by kernel_rfl) (by kernel_rfl) (fun _ _ _ h => h) (Or.inl ⟨by rfl, fun w hSw => ?_⟩) hHeld ?_
        · (try dsimp only at hSw)
          unfold oR13_0
          go_simp
        try simp only [oR13_0, Act.put, List.setIfInBounds_toArray, List.set_cons_zero, List.set_cons_succ]
        refine wpAnyH_take (i := 1) (oi := oR13_1) (v := .int .i64 sg) rfl (by kernel_rfl) (by kernel_rfl) (by kernel_rfl) (fun _ _ _ h => h) (Or.inl ⟨by rfl, fun w hSw => ?_⟩) hHeld ?_
        · (try dsimp only at hSw)
          unfold oR13_1
          go_simp
        try simp only [oR13_1, Act.put, List.setIfInBounds_toArray, List.set_cons_zero, List.set_cons_succ]
        refine wpAnyH_take (i := 2) (oi := oR13_2) (v := .pointer (some ⟨c, 0, none⟩)) rfl (by kernel_rfl) (by kernel_rfl) (by kernel_rfl) (fun _ _ _ h => h) (Or.inl ⟨by rfl, fun w hSw => ?_⟩) hHeld ?_
        · (try dsimp only at hSw)
          unfold oR13_2
          go_simp
        try simp only [oR13_2, Act.put, List.setIfInBounds_toArray, List.set_cons_zero, List.set_cons_succ]
        refine wpAnyH_ready (rs := [3]) (by kernel_rfl) (by simp) ?_
        refine AllReadyH.cons (o := oR13_3) rfl (fun K hK => ?_) AllReadyH.nil
        unfold oR13_3
        go_simp
        go_wp2_with fail
        refine (drawText w0 v.drew c a len cap 5 hl (by omega) (unhide HC) (unhide DV).drew.m.1).mono ?_
        rintro e va ⟨⟨tx, tx0, rfl⟩, mv⟩
        have Dva := hide ((unhide DV).drew.moved mv hc)
        have Nva := hide (show Bc va w.heap.size bn (.int .i64 n0) (.slice n1 n2 n3) from row_only (show Bc v.drew w.heap.size bn (.int .i64 n0) (.slice n1 n2 n3) from (unhide Nv)) mv.2 hc)
        have K1 : va.cell? ⟨bd, 0, none⟩ = some (.int .i64 x.room) ∧ va.cell? ⟨bd, 1, none⟩ = some (.slice x.a x.ps.length x.c) := ⟨(unhide Dva).bx.c0, (unhide Dva).bx.c1⟩
        have szva : v.heap.size ≤ va.heap.size := mv.2.1
        clear mv
        go_wp2_with fail
        refine hK.out _ _ K1 (fun hHeld => ?_)
        clear hK K
        try simp only [oR13_3, Act.put, List.setIfInBounds_toArray, List.set_cons_zero, List.set_cons_succ]
        refine wpAnyH_ready (rs := [4]) (by kernel_rfl) (by simp) ?_
        refine AllReadyH.cons (o := oR13_4) rfl (fun K hK => ?_) AllReadyH.nil
        unfold oR13_4
        go_simp
        go_wp2_with fail
        refine (SAdd15.sSegAdd va x (sg) tx (unhide Dva).rd (unhide Dva).sum (by omega)).mono ?_
        rintro e z ⟨y, hy, rfl, oy, bb⟩
        have RG := hide (show (addD x.room x.ps (sg) tx).2 ≠ 1 → OkD y.room y.ps from fun q => by
          have h := OkS15.rg_add (room := x.room) (ps := x.ps) (sg) tx (unhide Dva).ok q
          rw [← hy] at h
          exact h)
        have DZ := hide ((unhide Dva).below bb)
        have NZ := hide (Bc.below (unhide Nva) bb (unhide Nva).lt.2)
        have OY := hide (row_base oy (show w.heap.size ≤ va.heap.size from by have := (unhide Dva).rb.lt.2; omega))
        generalize (addD x.room x.ps (sg) tx).2 = code at *
        have KZ : z.cell? ⟨bd, 0, none⟩ = some (.int .i64 x.room) ∧ z.cell? ⟨bd, 1, none⟩ = some (.slice x.a x.ps.length x.c) := ⟨(unhide DZ).bx.c0, (unhide DZ).bx.c1⟩
        have q0 := (unhide NZ).c0
        have q1 := (unhide NZ).c1
        have t0 := (unhide NZ).free 0
        have t1 := (unhide NZ).free 1
        have st := grow_grow ((unhide NZ).set0 (.int .i64 y.room)).2 (bc_set1 ((unhide NZ).set0 (.int .i64 y.room)).1 (.slice y.a y.ps.length y.c)).2
        have NS := hide (bc_set1 ((unhide NZ).set0 (.int .i64 y.room)).1 (.slice y.a y.ps.length y.c)).1
        have nn := (unhide NZ).lt
        have bln := (unhide DZ).bx.lt.2
        have DS := hide ((unhide DZ).aside st hc hs (by omega) (by omega) (row_ne (unhide NZ) (unhide DZ).ow (by decide) rfl))
        have OS := hide (World.ownsRow.kept (unhide OY) st (.inr (row_ne (unhide NZ) (unhide OY) (by decide) rfl)))
        have KS : ((z.setCell ⟨bn, 0, none⟩ (.int .i64 y.room)).setCell ⟨bn, 1, none⟩ (.slice y.a y.ps.length y.c)).cell? ⟨bd, 0, none⟩ = some (.int .i64 x.room) ∧ ((z.setCell ⟨bn, 0, none⟩ (.int .i64 y.room)).setCell ⟨bn, 1, none⟩ (.slice y.a y.ps.length y.c)).cell? ⟨bd, 1, none⟩ = some (.slice x.a x.ps.length x.c) := ⟨(unhide DS).bx.c0, (unhide DS).bx.c1⟩
        clear st oy bb hy
        go_wp2_with fail
        refine hK.out _ _ KZ (fun hHeld => ?_)
        clear hK K
        try simp only [oR13_4, Act.put, List.setIfInBounds_toArray, List.set_cons_zero, List.set_cons_succ]
        refine wpAnyH_take (i := 5) (oi := oR13_5) (v := .tuple #[.agg #[.int .i64 y.room, .slice y.a y.ps.length y.c], .int .i64 code]) rfl (by kernel_rfl) (by kernel_rfl) (by kernel_rfl) (fun _ _ _ h => h) (Or.inl ⟨by rfl, fun w hSw => ?_⟩) hHeld ?_
        · (try dsimp only at hSw)
          unfold oR13_5
          go_simp
        try simp only [oR13_5, Act.put, List.setIfInBounds_toArray, List.set_cons_zero, List.set_cons_succ]
        refine wpAnyH_take (i := 6) (oi := oR13_6) (v := .agg #[.int .i64 y.room, .slice y.a y.ps.length y.c]) rfl (by kernel_rfl) (by kernel_rfl) (by kernel_rfl) (fun _ _ _ h => h) (Or.inl ⟨by rfl, fun w hSw => ?_⟩) hHeld ?_
        · (try dsimp only at hSw)
          unfold oR13_6
          go_simp
        try simp only [oR13_6, Act.put, List.setIfInBounds_toArray, List.set_cons_zero, List.set_cons_succ]
        refine wpAnyH_take (i := 7) (oi := oR13_7) (v := .int .i64 code) rfl (by kernel_rfl) (by kernel_rfl) (by kernel_rfl) (fun _ _ _ h => h) (Or.inl ⟨by rfl, fun w hSw => ?_⟩) hHeld ?_
        · (try dsimp only at hSw)
          unfold oR13_7
          go_simp
        try simp only [oR13_7, Act.put, List.setIfInBounds_toArray, List.set_cons_zero, List.set_cons_succ]
        refine wpAnyH_ready (rs := [8]) (by kernel_rfl) (by simp) ?_
        refine AllReadyH.cons (o := oR13_8) rfl (fun K hK => ?_) AllReadyH.nil
        unfold oR13_8
        go_simp
        refine hK.out _ _ KS (fun hHeld => ?_)
        clear hK K
        try simp only [oR13_8, Act.put, List.setIfInBounds_toArray, List.set_cons_zero, List.set_cons_succ]
        refine wpAnyH_take (i := 9) (oi := oR13_9) (v := .int .i64 code) rfl (by kernel_rfl) (by kernel_rfl) (by kernel_rfl) (fun _ _ _ h => h) (Or.inl ⟨by rfl, fun w hSw => ?_⟩) hHeld ?_
        · (try dsimp only at hSw)
          unfold oR13_9
          go_simp
        try simp only [oR13_9, Act.put, List.setIfInBounds_toArray, List.set_cons_zero, List.set_cons_succ]
        refine wpAnyH_done (by kernel_rfl) ?_ _
        clear K0 K1 KZ KS q0 q1 t0 t1
        generalize ((z.setCell ⟨bn, 0, none⟩ (.int .i64 y.room)).setCell ⟨bn, 1, none⟩ (.slice y.a y.ps.length y.c)) = zz at *
        have p0 := (unhide NS).c0
        have p1 := (unhide NS).c1
        have d0 := (unhide DS).bx.c0
        have d1 := (unhide DS).bx.c1
        have e0 := (unhide DS).bx.free 0
        have e1 := (unhide DS).bx.free 1
        by_cases q : code = 1
        · have qb : (code != 1) = false := by simpa using q
          clear q
          go_wp2
          go_roundw
          case rel => exact ⟨k + 1, x, sg, rfl, by go_num, by omega, by omega, by omega, DS⟩
          case measure => simp [intOf]; omega
        · have qb : (code != 1) = true := by simpa using q
          have DP := hide ((unhide DS).put hc hs (unhide OS) ((unhide RG) q))
          clear q
          go_wp2
          go_roundw
          case rel => exact ⟨k + 1, y, sg, rfl, by go_num, by omega, by omega, by omega, DP⟩
          case measure => simp [intOf]; omega
      · have K0 : v.cell? ⟨bd, 0, none⟩ = some (.int .i64 x.room) ∧ v.cell? ⟨bd, 1, none⟩ = some (.slice x.a x.ps.length x.c) := ⟨(unhide DV).bx.c0, (unhide DV).bx.c1⟩
        go_wp2_with fail
        refine wp_region_held_drew (S := (fun w' => w'.cell? ⟨bd, 0, none⟩ = some (.int .i64 x.room) ∧ w'.cell? ⟨bd, 1, none⟩ = some (.slice x.a x.ps.length x.c))) (by kernel_rfl) K0 (fun hHeld => ?_)
        refine wpAnyH_take (i := 0) (oi := oR13_0) (v := .agg #[.int .i64 x.room, .slice x.a x.ps.length x.c]) rfl (by kernel_rfl) (by kernel_rfl) (by kernel_rfl) (fun _ _ _ h => h) (Or.inl ⟨by rfl, fun w hSw => ?_⟩) hHeld ?_
        · (try dsimp only at hSw)
          unfold oR13_0
          go_simp
        try simp only [oR13_0, Act.put, List.setIfInBounds_toArray, List.set_cons_zero, List.set_cons_succ]
        refine wpAnyH_take (i := 1) (oi := oR13_1) (v := .int .i64 sg) rfl (by kernel_rfl) (by kernel_rfl) (by kernel_rfl) (fun _ _ _ h => h) (Or.inl ⟨by rfl, fun w hSw => ?_⟩) hHeld ?_
        · (try dsimp only at hSw)
          unfold oR13_1
          go_simp
        try simp only [oR13_1, Act.put, List.setIfInBounds_toArray, List.set_cons_zero, List.set_cons_succ]
        refine wpAnyH_take (i := 2) (oi := oR13_2) (v := .pointer (some ⟨c, 0, none⟩)) rfl (by kernel_rfl) (by kernel_rfl) (by kernel_rfl) (fun _ _ _ h => h) (Or.inl ⟨by rfl, fun w hSw => ?_⟩) hHeld ?_
        · (try dsimp only at hSw)
          unfold oR13_2
          go_simp
        try simp only [oR13_2, Act.put, List.setIfInBounds_toArray, List.set_cons_zero, List.set_cons_succ]
        refine wpAnyH_ready (rs := [3]) (by kernel_rfl) (by simp) ?_
        refine AllReadyH.cons (o := oR13_3) rfl (fun K hK => ?_) AllReadyH.nil
        unfold oR13_3
        go_simp
        go_wp2_with fail
        refine (drawText w0 v.drew c a len cap 5 hl (by omega) (unhide HC) (unhide DV).drew.m.1).mono ?_
        rintro e va ⟨⟨tx, tx0, rfl⟩, mv⟩
        have Dva := hide ((unhide DV).drew.moved mv hc)
        have Nva := hide (show Bc va w.heap.size bn (.int .i64 n0) (.slice n1 n2 n3) from row_only (show Bc v.drew w.heap.size bn (.int .i64 n0) (.slice n1 n2 n3) from (unhide Nv)) mv.2 hc)
        have K1 : va.cell? ⟨bd, 0, none⟩ = some (.int .i64 x.room) ∧ va.cell? ⟨bd, 1, none⟩ = some (.slice x.a x.ps.length x.c) := ⟨(unhide Dva).bx.c0, (unhide Dva).bx.c1⟩
        have szva : v.heap.size ≤ va.heap.size := mv.2.1
        clear mv
        go_wp2_with fail
        refine hK.out _ _ K1 (fun hHeld => ?_)
        clear hK K
        try simp only [oR13_3, Act.put, List.setIfInBounds_toArray, List.set_cons_zero, List.set_cons_succ]
        refine wpAnyH_ready (rs := [4]) (by kernel_rfl) (by simp) ?_
        refine AllReadyH.cons (o := oR13_4) rfl (fun K hK => ?_) AllReadyH.nil
        unfold oR13_4
        go_simp
        go_wp2_with fail
        refine (SAdd15.sSegAdd va x (sg) tx (unhide Dva).rd (unhide Dva).sum (by omega)).mono ?_
        rintro e z ⟨y, hy, rfl, oy, bb⟩
        have RG := hide (show (addD x.room x.ps (sg) tx).2 ≠ 1 → OkD y.room y.ps from fun q => by
          have h := OkS15.rg_add (room := x.room) (ps := x.ps) (sg) tx (unhide Dva).ok q
          rw [← hy] at h
          exact h)
        have DZ := hide ((unhide Dva).below bb)
        have NZ := hide (Bc.below (unhide Nva) bb (unhide Nva).lt.2)
        have OY := hide (row_base oy (show w.heap.size ≤ va.heap.size from by have := (unhide Dva).rb.lt.2; omega))
        generalize (addD x.room x.ps (sg) tx).2 = code at *
        have KZ : z.cell? ⟨bd, 0, none⟩ = some (.int .i64 x.room) ∧ z.cell? ⟨bd, 1, none⟩ = some (.slice x.a x.ps.length x.c) := ⟨(unhide DZ).bx.c0, (unhide DZ).bx.c1⟩
        have q0 := (unhide NZ).c0
        have q1 := (unhide NZ).c1
        have t0 := (unhide NZ).free 0
        have t1 := (unhide NZ).free 1
        have st := grow_grow ((unhide NZ).set0 (.int .i64 y.room)).2 (bc_set1 ((unhide NZ).set0 (.int .i64 y.room)).1 (.slice y.a y.ps.length y.c)).2
        have NS := hide (bc_set1 ((unhide NZ).set0 (.int .i64 y.room)).1 (.slice y.a y.ps.length y.c)).1
        have nn := (unhide NZ).lt
        have bln := (unhide DZ).bx.lt.2
        have DS := hide ((unhide DZ).aside st hc hs (by omega) (by omega) (row_ne (unhide NZ) (unhide DZ).ow (by decide) rfl))
        have OS := hide (World.ownsRow.kept (unhide OY) st (.inr (row_ne (unhide NZ) (unhide OY) (by decide) rfl)))
        have KS : ((z.setCell ⟨bn, 0, none⟩ (.int .i64 y.room)).setCell ⟨bn, 1, none⟩ (.slice y.a y.ps.length y.c)).cell? ⟨bd, 0, none⟩ = some (.int .i64 x.room) ∧ ((z.setCell ⟨bn, 0, none⟩ (.int .i64 y.room)).setCell ⟨bn, 1, none⟩ (.slice y.a y.ps.length y.c)).cell? ⟨bd, 1, none⟩ = some (.slice x.a x.ps.length x.c) := ⟨(unhide DS).bx.c0, (unhide DS).bx.c1⟩
        clear st oy bb hy
        go_wp2_with fail
        refine hK.out _ _ KZ (fun hHeld => ?_)
        clear hK K
        try simp only [oR13_4, Act.put, List.setIfInBounds_toArray, List.set_cons_zero, List.set_cons_succ]
        refine wpAnyH_take (i := 5) (oi := oR13_5) (v := .tuple #[.agg #[.int .i64 y.room, .slice y.a y.ps.length y.c], .int .i64 code]) rfl (by kernel_rfl) (by kernel_rfl) (by kernel_rfl) (fun _ _ _ h => h) (Or.inl ⟨by rfl, fun w hSw => ?_⟩) hHeld ?_
        · (try dsimp only at hSw)
          unfold oR13_5
          go_simp
        try simp only [oR13_5, Act.put, List.setIfInBounds_toArray, List.set_cons_zero, List.set_cons_succ]
        refine wpAnyH_take (i := 6) (oi := oR13_6) (v := .agg #[.int .i64 y.room, .slice y.a y.ps.length y.c]) rfl (by kernel_rfl) (by kernel_rfl) (by kernel_rfl) (fun _ _ _ h => h) (Or.inl ⟨by rfl, fun w hSw => ?_⟩) hHeld ?_
        · (try dsimp only at hSw)
          unfold oR13_6
          go_simp
        try simp only [oR13_6, Act.put, List.setIfInBounds_toArray, List.set_cons_zero, List.set_cons_succ]
        refine wpAnyH_take (i := 7) (oi := oR13_7) (v := .int .i64 code) rfl (by kernel_rfl) (by kernel_rfl) (by kernel_rfl) (fun _ _ _ h => h) (Or.inl ⟨by rfl, fun w hSw => ?_⟩) hHeld ?_
        · (try dsimp only at hSw)
          unfold oR13_7
          go_simp
        try simp only [oR13_7, Act.put, List.setIfInBounds_toArray, List.set_cons_zero, List.set_cons_succ]
        refine wpAnyH_ready (rs := [8]) (by kernel_rfl) (by simp) ?_
        refine AllReadyH.cons (o := oR13_8) rfl (fun K hK => ?_) AllReadyH.nil
        unfold oR13_8
        go_simp
        refine hK.out _ _ KS (fun hHeld => ?_)
        clear hK K
        try simp only [oR13_8, Act.put, List.setIfInBounds_toArray, List.set_cons_zero, List.set_cons_succ]
        refine wpAnyH_take (i := 9) (oi := oR13_9) (v := .int .i64 code) rfl (by kernel_rfl) (by kernel_rfl) (by kernel_rfl) (fun _ _ _ h => h) (Or.inl ⟨by rfl, fun w hSw => ?_⟩) hHeld ?_
        · (try dsimp only at hSw)
          unfold oR13_9
          go_simp
        try simp only [oR13_9, Act.put, List.setIfInBounds_toArray, List.set_cons_zero, List.set_cons_succ]
        refine wpAnyH_done (by kernel_rfl) ?_ _
        clear K0 K1 KZ KS q0 q1 t0 t1
        generalize ((z.setCell ⟨bn, 0, none⟩ (.int .i64 y.room)).setCell ⟨bn, 1, none⟩ (.slice y.a y.ps.length y.c)) = zz at *
        have p0 := (unhide NS).c0
        have p1 := (unhide NS).c1
        have d0 := (unhide DS).bx.c0
        have d1 := (unhide DS).bx.c1
        have e0 := (unhide DS).bx.free 0
        have e1 := (unhide DS).bx.free 1
        by_cases q : code = 1
        · have qb : (code != 1) = false := by simpa using q
          clear q
          go_wp2
          go_roundw
          case rel => exact ⟨k + 1, x, sg, rfl, by go_num, by omega, by omega, by omega, DS⟩
          case measure => simp [intOf]; omega
        · have qb : (code != 1) = true := by simpa using q
          have DP := hide ((unhide DS).put hc hs (unhide OS) ((unhide RG) q))
          clear q
          go_wp2
          go_roundw
          case rel => exact ⟨k + 1, y, sg, rfl, by go_num, by omega, by omega, by omega, DP⟩
          case measure => simp [intOf]; omega
      · have K0 : v.cell? ⟨bd, 0, none⟩ = some (.int .i64 x.room) ∧ v.cell? ⟨bd, 1, none⟩ = some (.slice x.a x.ps.length x.c) := ⟨(unhide DV).bx.c0, (unhide DV).bx.c1⟩
        go_wp2_with fail
        refine wp_region_held_drew (S := (fun w' => w'.cell? ⟨bd, 0, none⟩ = some (.int .i64 x.room) ∧ w'.cell? ⟨bd, 1, none⟩ = some (.slice x.a x.ps.length x.c))) (by kernel_rfl) K0 (fun hHeld => ?_)
        refine wpAnyH_take (i := 0) (oi := oR13_0) (v := .agg #[.int .i64 x.room, .slice x.a x.ps.length x.c]) rfl (by kernel_rfl) (by kernel_rfl) (by kernel_rfl) (fun _ _ _ h => h) (Or.inl ⟨by rfl, fun w hSw => ?_⟩) hHeld ?_
        · (try dsimp only at hSw)
          unfold oR13_0
          go_simp
        try simp only [oR13_0, Act.put, List.setIfInBounds_toArray, List.set_cons_zero, List.set_cons_succ]
        refine wpAnyH_take (i := 1) (oi := oR13_1) (v := .int .i64 sg) rfl (by kernel_rfl) (by kernel_rfl) (by kernel_rfl) (fun _ _ _ h => h) (Or.inl ⟨by rfl, fun w hSw => ?_⟩) hHeld ?_
        · (try dsimp only at hSw)
          unfold oR13_1
          go_simp
        try simp only [oR13_1, Act.put, List.setIfInBounds_toArray, List.set_cons_zero, List.set_cons_succ]
        refine wpAnyH_take (i := 2) (oi := oR13_2) (v := .pointer (some ⟨c, 0, none⟩)) rfl (by kernel_rfl) (by kernel_rfl) (by kernel_rfl) (fun _ _ _ h => h) (Or.inl ⟨by rfl, fun w hSw => ?_⟩) hHeld ?_
        · (try dsimp only at hSw)
          unfold oR13_2
          go_simp
        try simp only [oR13_2, Act.put, List.setIfInBounds_toArray, List.set_cons_zero, List.set_cons_succ]
        refine wpAnyH_ready (rs := [3]) (by kernel_rfl) (by simp) ?_
        refine AllReadyH.cons (o := oR13_3) rfl (fun K hK => ?_) AllReadyH.nil
        unfold oR13_3
        go_simp
        go_wp2_with fail
        refine (drawText w0 v.drew c a len cap 5 hl (by omega) (unhide HC) (unhide DV).drew.m.1).mono ?_
        rintro e va ⟨⟨tx, tx0, rfl⟩, mv⟩
        have Dva := hide ((unhide DV).drew.moved mv hc)
        have Nva := hide (show Bc va w.heap.size bn (.int .i64 n0) (.slice n1 n2 n3) from row_only (show Bc v.drew w.heap.size bn (.int .i64 n0) (.slice n1 n2 n3) from (unhide Nv)) mv.2 hc)
        have K1 : va.cell? ⟨bd, 0, none⟩ = some (.int .i64 x.room) ∧ va.cell? ⟨bd, 1, none⟩ = some (.slice x.a x.ps.length x.c) := ⟨(unhide Dva).bx.c0, (unhide Dva).bx.c1⟩
        have szva : v.heap.size ≤ va.heap.size := mv.2.1
        clear mv
        go_wp2_with fail
        refine hK.out _ _ K1 (fun hHeld => ?_)
        clear hK K
        try simp only [oR13_3, Act.put, List.setIfInBounds_toArray, List.set_cons_zero, List.set_cons_succ]
        refine wpAnyH_ready (rs := [4]) (by kernel_rfl) (by simp) ?_
        refine AllReadyH.cons (o := oR13_4) rfl (fun K hK => ?_) AllReadyH.nil
        unfold oR13_4
        go_simp
        go_wp2_with fail
        refine (SAdd15.sSegAdd va x (sg) tx (unhide Dva).rd (unhide Dva).sum (by omega)).mono ?_
        rintro e z ⟨y, hy, rfl, oy, bb⟩
        have RG := hide (show (addD x.room x.ps (sg) tx).2 ≠ 1 → OkD y.room y.ps from fun q => by
          have h := OkS15.rg_add (room := x.room) (ps := x.ps) (sg) tx (unhide Dva).ok q
          rw [← hy] at h
          exact h)
        have DZ := hide ((unhide Dva).below bb)
        have NZ := hide (Bc.below (unhide Nva) bb (unhide Nva).lt.2)
        have OY := hide (row_base oy (show w.heap.size ≤ va.heap.size from by have := (unhide Dva).rb.lt.2; omega))
        generalize (addD x.room x.ps (sg) tx).2 = code at *
        have KZ : z.cell? ⟨bd, 0, none⟩ = some (.int .i64 x.room) ∧ z.cell? ⟨bd, 1, none⟩ = some (.slice x.a x.ps.length x.c) := ⟨(unhide DZ).bx.c0, (unhide DZ).bx.c1⟩
        have q0 := (unhide NZ).c0
        have q1 := (unhide NZ).c1
        have t0 := (unhide NZ).free 0
        have t1 := (unhide NZ).free 1
        have st := grow_grow ((unhide NZ).set0 (.int .i64 y.room)).2 (bc_set1 ((unhide NZ).set0 (.int .i64 y.room)).1 (.slice y.a y.ps.length y.c)).2
        have NS := hide (bc_set1 ((unhide NZ).set0 (.int .i64 y.room)).1 (.slice y.a y.ps.length y.c)).1
        have nn := (unhide NZ).lt
        have bln := (unhide DZ).bx.lt.2
        have DS := hide ((unhide DZ).aside st hc hs (by omega) (by omega) (row_ne (unhide NZ) (unhide DZ).ow (by decide) rfl))
        have OS := hide (World.ownsRow.kept (unhide OY) st (.inr (row_ne (unhide NZ) (unhide OY) (by decide) rfl)))
        have KS : ((z.setCell ⟨bn, 0, none⟩ (.int .i64 y.room)).setCell ⟨bn, 1, none⟩ (.slice y.a y.ps.length y.c)).cell? ⟨bd, 0, none⟩ = some (.int .i64 x.room) ∧ ((z.setCell ⟨bn, 0, none⟩ (.int .i64 y.room)).setCell ⟨bn, 1, none⟩ (.slice y.a y.ps.length y.c)).cell? ⟨bd, 1, none⟩ = some (.slice x.a x.ps.length x.c) := ⟨(unhide DS).bx.c0, (unhide DS).bx.c1⟩
        clear st oy bb hy
        go_wp2_with fail
        refine hK.out _ _ KZ (fun hHeld => ?_)
        clear hK K
        try simp only [oR13_4, Act.put, List.setIfInBounds_toArray, List.set_cons_zero, List.set_cons_succ]
        refine wpAnyH_take (i := 5) (oi := oR13_5) (v := .tuple #[.agg #[.int .i64 y.room, .slice y.a y.ps.length y.c], .int .i64 code]) rfl (by kernel_rfl) (by kernel_rfl) (by kernel_rfl) (fun _ _ _ h => h) (Or.inl ⟨by rfl, fun w hSw => ?_⟩) hHeld ?_
        · (try dsimp only at hSw)
          unfold oR13_5
          go_simp
        try simp only [oR13_5, Act.put, List.setIfInBounds_toArray, List.set_cons_zero, List.set_cons_succ]
        refine wpAnyH_take (i := 6) (oi := oR13_6) (v := .agg #[.int .i64 y.room, .slice y.a y.ps.length y.c]) rfl (by kernel_rfl) (by kernel_rfl) (by kernel_rfl) (fun _ _ _ h => h) (Or.inl ⟨by rfl, fun w hSw => ?_⟩) hHeld ?_
        · (try dsimp only at hSw)
          unfold oR13_6
          go_simp
        try simp only [oR13_6, Act.put, List.setIfInBounds_toArray, List.set_cons_zero, List.set_cons_succ]
        refine wpAnyH_take (i := 7) (oi := oR13_7) (v := .int .i64 code) rfl (by kernel_rfl) (by kernel_rfl) (by kernel_rfl) (fun _ _ _ h => h) (Or.inl ⟨by rfl, fun w hSw => ?_⟩) hHeld ?_
        · (try dsimp only at hSw)
          unfold oR13_7
          go_simp
        try simp only [oR13_7, Act.put, List.setIfInBounds_toArray, List.set_cons_zero, List.set_cons_succ]
        refine wpAnyH_ready (rs := [8]) (by kernel_rfl) (by simp) ?_
        refine AllReadyH.cons (o := oR13_8) rfl (fun K hK => ?_) AllReadyH.nil
        unfold oR13_8
        go_simp
        refine hK.out _ _ KS (fun hHeld => ?_)
        clear hK K
        try simp only [oR13_8, Act.put, List.setIfInBounds_toArray, List.set_cons_zero, List.set_cons_succ]
        refine wpAnyH_take (i := 9) (oi := oR13_9) (v := .int .i64 code) rfl (by kernel_rfl) (by kernel_rfl) (by kernel_rfl) (fun _ _ _ h => h) (Or.inl ⟨by rfl, fun w hSw => ?_⟩) hHeld ?_
        · (try dsimp only at hSw)
          unfold oR13_9
          go_simp
        try simp only [oR13_9, Act.put, List.setIfInBounds_toArray, List.set_cons_zero, List.set_cons_succ]
        refine wpAnyH_done (by kernel_rfl) ?_ _
        clear K0 K1 KZ KS q0 q1 t0 t1
        generalize ((z.setCell ⟨bn, 0, none⟩ (.int .i64 y.room)).setCell ⟨bn, 1, none⟩ (.slice y.a y.ps.length y.c)) = zz at *
        have p0 := (unhide NS).c0
        have p1 := (unhide NS).c1
        have d0 := (unhide DS).bx.c0
        have d1 := (unhide DS).bx.c1
        have e0 := (unhide DS).bx.free 0
        have e1 := (unhide DS).bx.free 1
        by_cases q : code = 1
        · have qb : (code != 1) = false := by simpa using q
          clear q
          go_wp2
          go_roundw
          case rel => exact ⟨k + 1, x, sg, rfl, by go_num, by omega, by omega, by omega, DS⟩
          case measure => simp [intOf]; omega
        · have qb : (code != 1) = true := by simpa using q
          have DP := hide ((unhide DS).put hc hs (unhide OS) ((unhide RG) q))
          clear q
          go_wp2
          go_roundw
          case rel => exact ⟨k + 1, y, sg, rfl, by go_num, by omega, by omega, by omega, DP⟩
          case measure => simp [intOf]; omega
      · go_wp2_with fail
        refine (SFrom15.sAfter v sg ⟨sg0', sg1'⟩).mono ?_
        rintro e v ⟨rfl, rfl⟩
        have K0 : v.cell? ⟨bd, 0, none⟩ = some (.int .i64 x.room) ∧ v.cell? ⟨bd, 1, none⟩ = some (.slice x.a x.ps.length x.c) := ⟨(unhide DV).bx.c0, (unhide DV).bx.c1⟩
        go_wp2_with fail
        refine wp_region_held_drew (S := (fun w' => w'.cell? ⟨bd, 0, none⟩ = some (.int .i64 x.room) ∧ w'.cell? ⟨bd, 1, none⟩ = some (.slice x.a x.ps.length x.c))) (by kernel_rfl) K0 (fun hHeld => ?_)
        refine wpAnyH_take (i := 0) (oi := oR16_0) (v := .agg #[.int .i64 x.room, .slice x.a x.ps.length x.c]) rfl (by kernel_rfl) (by kernel_rfl) (by kernel_rfl) (fun _ _ _ h => h) (Or.inl ⟨by rfl, fun w hSw => ?_⟩) hHeld ?_
        · (try dsimp only at hSw)
          unfold oR16_0
          go_simp
        try simp only [oR16_0, Act.put, List.setIfInBounds_toArray, List.set_cons_zero, List.set_cons_succ]
        refine wpAnyH_take (i := 1) (oi := oR16_1) (v := .int .i64 ((sg + 1) % 20)) rfl (by kernel_rfl) (by kernel_rfl) (by kernel_rfl) (fun _ _ _ h => h) (Or.inl ⟨by rfl, fun w hSw => ?_⟩) hHeld ?_
        · (try dsimp only at hSw)
          unfold oR16_1
          go_simp
        try simp only [oR16_1, Act.put, List.setIfInBounds_toArray, List.set_cons_zero, List.set_cons_succ]
        refine wpAnyH_take (i := 2) (oi := oR16_2) (v := .pointer (some ⟨c, 0, none⟩)) rfl (by kernel_rfl) (by kernel_rfl) (by kernel_rfl) (fun _ _ _ h => h) (Or.inl ⟨by rfl, fun w hSw => ?_⟩) hHeld ?_
        · (try dsimp only at hSw)
          unfold oR16_2
          go_simp
        try simp only [oR16_2, Act.put, List.setIfInBounds_toArray, List.set_cons_zero, List.set_cons_succ]
        refine wpAnyH_ready (rs := [3]) (by kernel_rfl) (by simp) ?_
        refine AllReadyH.cons (o := oR16_3) rfl (fun K hK => ?_) AllReadyH.nil
        unfold oR16_3
        go_simp
        go_wp2_with fail
        refine (drawText w0 v.drew c a len cap 5 hl (by omega) (unhide HC) (unhide DV).drew.m.1).mono ?_
        rintro e va ⟨⟨tx, tx0, rfl⟩, mv⟩
        have Dva := hide ((unhide DV).drew.moved mv hc)
        have Nva := hide (show Bc va w.heap.size bn (.int .i64 n0) (.slice n1 n2 n3) from row_only (show Bc v.drew w.heap.size bn (.int .i64 n0) (.slice n1 n2 n3) from (unhide Nv)) mv.2 hc)
        have K1 : va.cell? ⟨bd, 0, none⟩ = some (.int .i64 x.room) ∧ va.cell? ⟨bd, 1, none⟩ = some (.slice x.a x.ps.length x.c) := ⟨(unhide Dva).bx.c0, (unhide Dva).bx.c1⟩
        have szva : v.heap.size ≤ va.heap.size := mv.2.1
        clear mv
        go_wp2_with fail
        refine hK.out _ _ K1 (fun hHeld => ?_)
        clear hK K
        try simp only [oR16_3, Act.put, List.setIfInBounds_toArray, List.set_cons_zero, List.set_cons_succ]
        refine wpAnyH_ready (rs := [4]) (by kernel_rfl) (by simp) ?_
        refine AllReadyH.cons (o := oR16_4) rfl (fun K hK => ?_) AllReadyH.nil
        unfold oR16_4
        go_simp
        go_wp2_with fail
        refine (SAdd15.sSegAdd va x (((sg + 1) % 20)) tx (unhide Dva).rd (unhide Dva).sum (by omega)).mono ?_
        rintro e z ⟨y, hy, rfl, oy, bb⟩
        have RG := hide (show (addD x.room x.ps (((sg + 1) % 20)) tx).2 ≠ 1 → OkD y.room y.ps from fun q => by
          have h := OkS15.rg_add (room := x.room) (ps := x.ps) (((sg + 1) % 20)) tx (unhide Dva).ok q
          rw [← hy] at h
          exact h)
        have DZ := hide ((unhide Dva).below bb)
        have NZ := hide (Bc.below (unhide Nva) bb (unhide Nva).lt.2)
        have OY := hide (row_base oy (show w.heap.size ≤ va.heap.size from by have := (unhide Dva).rb.lt.2; omega))
        generalize (addD x.room x.ps (((sg + 1) % 20)) tx).2 = code at *
        have KZ : z.cell? ⟨bd, 0, none⟩ = some (.int .i64 x.room) ∧ z.cell? ⟨bd, 1, none⟩ = some (.slice x.a x.ps.length x.c) := ⟨(unhide DZ).bx.c0, (unhide DZ).bx.c1⟩
        have q0 := (unhide NZ).c0
        have q1 := (unhide NZ).c1
        have t0 := (unhide NZ).free 0
        have t1 := (unhide NZ).free 1
        have st := grow_grow ((unhide NZ).set0 (.int .i64 y.room)).2 (bc_set1 ((unhide NZ).set0 (.int .i64 y.room)).1 (.slice y.a y.ps.length y.c)).2
        have NS := hide (bc_set1 ((unhide NZ).set0 (.int .i64 y.room)).1 (.slice y.a y.ps.length y.c)).1
        have nn := (unhide NZ).lt
        have bln := (unhide DZ).bx.lt.2
        have DS := hide ((unhide DZ).aside st hc hs (by omega) (by omega) (row_ne (unhide NZ) (unhide DZ).ow (by decide) rfl))
        have OS := hide (World.ownsRow.kept (unhide OY) st (.inr (row_ne (unhide NZ) (unhide OY) (by decide) rfl)))
        have KS : ((z.setCell ⟨bn, 0, none⟩ (.int .i64 y.room)).setCell ⟨bn, 1, none⟩ (.slice y.a y.ps.length y.c)).cell? ⟨bd, 0, none⟩ = some (.int .i64 x.room) ∧ ((z.setCell ⟨bn, 0, none⟩ (.int .i64 y.room)).setCell ⟨bn, 1, none⟩ (.slice y.a y.ps.length y.c)).cell? ⟨bd, 1, none⟩ = some (.slice x.a x.ps.length x.c) := ⟨(unhide DS).bx.c0, (unhide DS).bx.c1⟩
        clear st oy bb hy
        go_wp2_with fail
        refine hK.out _ _ KZ (fun hHeld => ?_)
        clear hK K
        try simp only [oR16_4, Act.put, List.setIfInBounds_toArray, List.set_cons_zero, List.set_cons_succ]
        refine wpAnyH_take (i := 5) (oi := oR16_5) (v := .tuple #[.agg #[.int .i64 y.room, .slice y.a y.ps.length y.c], .int .i64 code]) rfl (by kernel_rfl) (by kernel_rfl) (by kernel_rfl) (fun _ _ _ h => h) (Or.inl ⟨by rfl, fun w hSw => ?_⟩) hHeld ?_
        · (try dsimp only at hSw)
          unfold oR16_5
          go_simp
        try simp only [oR16_5, Act.put, List.setIfInBounds_toArray, List.set_cons_zero, List.set_cons_succ]
        refine wpAnyH_take (i := 6) (oi := oR16_6) (v := .agg #[.int .i64 y.room, .slice y.a y.ps.length y.c]) rfl (by kernel_rfl) (by kernel_rfl) (by kernel_rfl) (fun _ _ _ h => h) (Or.inl ⟨by rfl, fun w hSw => ?_⟩) hHeld ?_
        · (try dsimp only at hSw)
          unfold oR16_6
          go_simp
        try simp only [oR16_6, Act.put, List.setIfInBounds_toArray, List.set_cons_zero, List.set_cons_succ]
        refine wpAnyH_take (i := 7) (oi := oR16_7) (v := .int .i64 code) rfl (by kernel_rfl) (by kernel_rfl) (by kernel_rfl) (fun _ _ _ h => h) (Or.inl ⟨by rfl, fun w hSw => ?_⟩) hHeld ?_
        · (try dsimp only at hSw)
          unfold oR16_7
          go_simp
        try simp only [oR16_7, Act.put, List.setIfInBounds_toArray, List.set_cons_zero, List.set_cons_succ]
        refine wpAnyH_ready (rs := [8]) (by kernel_rfl) (by simp) ?_
        refine AllReadyH.cons (o := oR16_8) rfl (fun K hK => ?_) AllReadyH.nil
        unfold oR16_8
        go_simp
        refine hK.out _ _ KS (fun hHeld => ?_)
        clear hK K
        try simp only [oR16_8, Act.put, List.setIfInBounds_toArray, List.set_cons_zero, List.set_cons_succ]
        refine wpAnyH_take (i := 9) (oi := oR16_9) (v := .int .i64 code) rfl (by kernel_rfl) (by kernel_rfl) (by kernel_rfl) (fun _ _ _ h => h) (Or.inl ⟨by rfl, fun w hSw => ?_⟩) hHeld ?_
        · (try dsimp only at hSw)
          unfold oR16_9
          go_simp
        try simp only [oR16_9, Act.put, List.setIfInBounds_toArray, List.set_cons_zero, List.set_cons_succ]
        refine wpAnyH_done (by kernel_rfl) ?_ _
        clear K0 K1 KZ KS q0 q1 t0 t1
        generalize ((z.setCell ⟨bn, 0, none⟩ (.int .i64 y.room)).setCell ⟨bn, 1, none⟩ (.slice y.a y.ps.length y.c)) = zz at *
        have p0 := (unhide NS).c0
        have p1 := (unhide NS).c1
        have d0 := (unhide DS).bx.c0
        have d1 := (unhide DS).bx.c1
        have e0 := (unhide DS).bx.free 0
        have e1 := (unhide DS).bx.free 1
        by_cases q : code = 1
        · have qb : (code != 1) = false := by simpa using q
          clear q
          go_wp2
          go_roundw
          case rel => exact ⟨k + 1, x, ((sg + 1) % 20), rfl, by go_num, by omega, by omega, by omega, DS⟩
          case measure => simp [intOf]; omega
        · have qb : (code != 1) = true := by simpa using q
          have DP := hide ((unhide DS).put hc hs (unhide OS) ((unhide RG) q))
          clear q
          go_wp2
          go_roundw
          case rel => exact ⟨k + 1, y, ((sg + 1) % 20), rfl, by go_num, by omega, by omega, by omega, DP⟩
          case measure => simp [intOf]; omega
      · have K0 : v.cell? ⟨bd, 0, none⟩ = some (.int .i64 x.room) ∧ v.cell? ⟨bd, 1, none⟩ = some (.slice x.a x.ps.length x.c) := ⟨(unhide DV).bx.c0, (unhide DV).bx.c1⟩
        go_wp2_with fail
        refine wp_region_held_drew (S := (fun w' => w'.cell? ⟨bd, 0, none⟩ = some (.int .i64 x.room) ∧ w'.cell? ⟨bd, 1, none⟩ = some (.slice x.a x.ps.length x.c))) (by kernel_rfl) K0 (fun hHeld => ?_)
        refine wpAnyH_take (i := 0) (oi := oR18_0) (v := .agg #[.int .i64 x.room, .slice x.a x.ps.length x.c]) rfl (by kernel_rfl) (by kernel_rfl) (by kernel_rfl) (fun _ _ _ h => h) (Or.inl ⟨by rfl, fun w hSw => ?_⟩) hHeld ?_
        · (try dsimp only at hSw)
          unfold oR18_0
          go_simp
        try simp only [oR18_0, Act.put, List.setIfInBounds_toArray, List.set_cons_zero, List.set_cons_succ]
        refine wpAnyH_take (i := 1) (oi := oR18_1) (v := .int .i64 sg) rfl (by kernel_rfl) (by kernel_rfl) (by kernel_rfl) (fun _ _ _ h => h) (Or.inl ⟨by rfl, fun w hSw => ?_⟩) hHeld ?_
        · (try dsimp only at hSw)
          unfold oR18_1
          go_simp
        try simp only [oR18_1, Act.put, List.setIfInBounds_toArray, List.set_cons_zero, List.set_cons_succ]
        refine wpAnyH_take (i := 2) (oi := oR18_2) (v := .pointer (some ⟨c, 0, none⟩)) rfl (by kernel_rfl) (by kernel_rfl) (by kernel_rfl) (fun _ _ _ h => h) (Or.inl ⟨by rfl, fun w hSw => ?_⟩) hHeld ?_
        · (try dsimp only at hSw)
          unfold oR18_2
          go_simp
        try simp only [oR18_2, Act.put, List.setIfInBounds_toArray, List.set_cons_zero, List.set_cons_succ]
        refine wpAnyH_ready (rs := [3]) (by kernel_rfl) (by simp) ?_
        refine AllReadyH.cons (o := oR18_3) rfl (fun K hK => ?_) AllReadyH.nil
        unfold oR18_3
        go_simp
        go_wp2_with fail
        refine (drawText w0 v.drew c a len cap 5 hl (by omega) (unhide HC) (unhide DV).drew.m.1).mono ?_
        rintro e va ⟨⟨tx, tx0, rfl⟩, mv⟩
        have Dva := hide ((unhide DV).drew.moved mv hc)
        have Nva := hide (show Bc va w.heap.size bn (.int .i64 n0) (.slice n1 n2 n3) from row_only (show Bc v.drew w.heap.size bn (.int .i64 n0) (.slice n1 n2 n3) from (unhide Nv)) mv.2 hc)
        have K1 : va.cell? ⟨bd, 0, none⟩ = some (.int .i64 x.room) ∧ va.cell? ⟨bd, 1, none⟩ = some (.slice x.a x.ps.length x.c) := ⟨(unhide Dva).bx.c0, (unhide Dva).bx.c1⟩
        have szva : v.heap.size ≤ va.heap.size := mv.2.1
        clear mv
        go_wp2_with fail
        refine hK.out _ _ K1 (fun hHeld => ?_)
        clear hK K
        try simp only [oR18_3, Act.put, List.setIfInBounds_toArray, List.set_cons_zero, List.set_cons_succ]
        refine wpAnyH_ready (rs := [4]) (by kernel_rfl) (by simp) ?_
        refine AllReadyH.cons (o := oR18_4) rfl (fun K hK => ?_) AllReadyH.nil
        unfold oR18_4
        go_simp
        go_wp2_with fail
        refine (SLate15.sSegLate va x (sg) tx (unhide Dva).rd (unhide Dva).sum (by omega)).mono ?_
        rintro e z ⟨y, hy, rfl, oy, bb⟩
        have RG := hide (show (lateD x.room x.ps (sg) tx).2 ≠ 1 → OkD y.room y.ps from fun q => by
          have h := OkS15.rg_late (room := x.room) (ps := x.ps) (sg) tx (unhide Dva).ok q
          rw [← hy] at h
          exact h)
        have DZ := hide ((unhide Dva).below bb)
        have NZ := hide (Bc.below (unhide Nva) bb (unhide Nva).lt.2)
        have OY := hide (row_base oy (show w.heap.size ≤ va.heap.size from by have := (unhide Dva).rb.lt.2; omega))
        generalize (lateD x.room x.ps (sg) tx).2 = code at *
        have KZ : z.cell? ⟨bd, 0, none⟩ = some (.int .i64 x.room) ∧ z.cell? ⟨bd, 1, none⟩ = some (.slice x.a x.ps.length x.c) := ⟨(unhide DZ).bx.c0, (unhide DZ).bx.c1⟩
        have q0 := (unhide NZ).c0
        have q1 := (unhide NZ).c1
        have t0 := (unhide NZ).free 0
        have t1 := (unhide NZ).free 1
        have st := grow_grow ((unhide NZ).set0 (.int .i64 y.room)).2 (bc_set1 ((unhide NZ).set0 (.int .i64 y.room)).1 (.slice y.a y.ps.length y.c)).2
        have NS := hide (bc_set1 ((unhide NZ).set0 (.int .i64 y.room)).1 (.slice y.a y.ps.length y.c)).1
        have nn := (unhide NZ).lt
        have bln := (unhide DZ).bx.lt.2
        have DS := hide ((unhide DZ).aside st hc hs (by omega) (by omega) (row_ne (unhide NZ) (unhide DZ).ow (by decide) rfl))
        have OS := hide (World.ownsRow.kept (unhide OY) st (.inr (row_ne (unhide NZ) (unhide OY) (by decide) rfl)))
        have KS : ((z.setCell ⟨bn, 0, none⟩ (.int .i64 y.room)).setCell ⟨bn, 1, none⟩ (.slice y.a y.ps.length y.c)).cell? ⟨bd, 0, none⟩ = some (.int .i64 x.room) ∧ ((z.setCell ⟨bn, 0, none⟩ (.int .i64 y.room)).setCell ⟨bn, 1, none⟩ (.slice y.a y.ps.length y.c)).cell? ⟨bd, 1, none⟩ = some (.slice x.a x.ps.length x.c) := ⟨(unhide DS).bx.c0, (unhide DS).bx.c1⟩
        clear st oy bb hy
        go_wp2_with fail
        refine hK.out _ _ KZ (fun hHeld => ?_)
        clear hK K
        try simp only [oR18_4, Act.put, List.setIfInBounds_toArray, List.set_cons_zero, List.set_cons_succ]
        refine wpAnyH_take (i := 5) (oi := oR18_5) (v := .tuple #[.agg #[.int .i64 y.room, .slice y.a y.ps.length y.c], .int .i64 code]) rfl (by kernel_rfl) (by kernel_rfl) (by kernel_rfl) (fun _ _ _ h => h) (Or.inl ⟨by rfl, fun w hSw => ?_⟩) hHeld ?_
        · (try dsimp only at hSw)
          unfold oR18_5
          go_simp
        try simp only [oR18_5, Act.put, List.setIfInBounds_toArray, List.set_cons_zero, List.set_cons_succ]
        refine wpAnyH_take (i := 6) (oi := oR18_6) (v := .agg #[.int .i64 y.room, .slice y.a y.ps.length y.c]) rfl (by kernel_rfl) (by kernel_rfl) (by kernel_rfl) (fun _ _ _ h => h) (Or.inl ⟨by rfl, fun w hSw => ?_⟩) hHeld ?_
        · (try dsimp only at hSw)
          unfold oR18_6
          go_simp
        try simp only [oR18_6, Act.put, List.setIfInBounds_toArray, List.set_cons_zero, List.set_cons_succ]
        refine wpAnyH_take (i := 7) (oi := oR18_7) (v := .int .i64 code) rfl (by kernel_rfl) (by kernel_rfl) (by kernel_rfl) (fun _ _ _ h => h) (Or.inl ⟨by rfl, fun w hSw => ?_⟩) hHeld ?_
        · (try dsimp only at hSw)
          unfold oR18_7
          go_simp
        try simp only [oR18_7, Act.put, List.setIfInBounds_toArray, List.set_cons_zero, List.set_cons_succ]
        refine wpAnyH_ready (rs := [8]) (by kernel_rfl) (by simp) ?_
        refine AllReadyH.cons (o := oR18_8) rfl (fun K hK => ?_) AllReadyH.nil
        unfold oR18_8
        go_simp
        refine hK.out _ _ KS (fun hHeld => ?_)
        clear hK K
        try simp only [oR18_8, Act.put, List.setIfInBounds_toArray, List.set_cons_zero, List.set_cons_succ]
        refine wpAnyH_take (i := 9) (oi := oR18_9) (v := .int .i64 code) rfl (by kernel_rfl) (by kernel_rfl) (by kernel_rfl) (fun _ _ _ h => h) (Or.inl ⟨by rfl, fun w hSw => ?_⟩) hHeld ?_
        · (try dsimp only at hSw)
          unfold oR18_9
          go_simp
        try simp only [oR18_9, Act.put, List.setIfInBounds_toArray, List.set_cons_zero, List.set_cons_succ]
        refine wpAnyH_done (by kernel_rfl) ?_ _
        clear K0 K1 KZ KS q0 q1 t0 t1
        generalize ((z.setCell ⟨bn, 0, none⟩ (.int .i64 y.room)).setCell ⟨bn, 1, none⟩ (.slice y.a y.ps.length y.c)) = zz at *
        have p0 := (unhide NS).c0
        have p1 := (unhide NS).c1
        have d0 := (unhide DS).bx.c0
        have d1 := (unhide DS).bx.c1
        have e0 := (unhide DS).bx.free 0
        have e1 := (unhide DS).bx.free 1
        by_cases q : code = 1
        · have qb : (code != 1) = false := by simpa using q
          clear q
          go_wp2
          go_roundw
          case rel => exact ⟨k + 1, x, sg, rfl, by go_num, by omega, by omega, by omega, DS⟩
          case measure => simp [intOf]; omega
        · have qb : (code != 1) = true := by simpa using q
          have DP := hide ((unhide DS).put hc hs (unhide OS) ((unhide RG) q))
          clear q
          go_wp2
          go_roundw
          case rel => exact ⟨k + 1, y, sg, rfl, by go_num, by omega, by omega, by omega, DP⟩
          case measure => simp [intOf]; omega
      · have K0 : v.cell? ⟨bd, 0, none⟩ = some (.int .i64 x.room) ∧ v.cell? ⟨bd, 1, none⟩ = some (.slice x.a x.ps.length x.c) := ⟨(unhide DV).bx.c0, (unhide DV).bx.c1⟩
        go_wp2_with fail
        refine wp_region_held_drew (S := (fun w' => w'.cell? ⟨bd, 0, none⟩ = some (.int .i64 x.room) ∧ w'.cell? ⟨bd, 1, none⟩ = some (.slice x.a x.ps.length x.c))) (by kernel_rfl) K0 (fun hHeld => ?_)
        refine wpAnyH_take (i := 0) (oi := oR20_0) (v := .agg #[.int .i64 x.room, .slice x.a x.ps.length x.c]) rfl (by kernel_rfl) (by kernel_rfl) (by kernel_rfl) (fun _ _ _ h => h) (Or.inl ⟨by rfl, fun w hSw => ?_⟩) hHeld ?_
        · (try dsimp only at hSw)
          unfold oR20_0
          go_simp
        try simp only [oR20_0, Act.put, List.setIfInBounds_toArray, List.set_cons_zero, List.set_cons_succ]
        refine wpAnyH_take (i := 1) (oi := oR20_1) (v := .pointer (some ⟨c, 0, none⟩)) rfl (by kernel_rfl) (by kernel_rfl) (by kernel_rfl) (fun _ _ _ h => h) (Or.inl ⟨by rfl, fun w hSw => ?_⟩) hHeld ?_
        · (try dsimp only at hSw)
          unfold oR20_1
          go_simp
        try simp only [oR20_1, Act.put, List.setIfInBounds_toArray, List.set_cons_zero, List.set_cons_succ]
        refine wpAnyH_ready (rs := [2]) (by kernel_rfl) (by simp) ?_
        refine AllReadyH.cons (o := oR20_2) rfl (fun K hK => ?_) AllReadyH.nil
        unfold oR20_2
        go_simp
        go_wp2_with fail
        refine (below w0 v.drew c a len cap 20 hl (unhide HC) (unhide DV).drew.m.1 (by omega)).mono ?_
        rintro e va ⟨⟨kp, kp0, kp1, rfl⟩, mv⟩
        have Dva := hide ((unhide DV).drew.moved mv hc)
        have Nva := hide (show Bc va w.heap.size bn (.int .i64 n0) (.slice n1 n2 n3) from row_only (show Bc v.drew w.heap.size bn (.int .i64 n0) (.slice n1 n2 n3) from (unhide Nv)) mv.2 hc)
        have K1 : va.cell? ⟨bd, 0, none⟩ = some (.int .i64 x.room) ∧ va.cell? ⟨bd, 1, none⟩ = some (.slice x.a x.ps.length x.c) := ⟨(unhide Dva).bx.c0, (unhide Dva).bx.c1⟩
        have szva : v.heap.size ≤ va.heap.size := mv.2.1
        clear mv
        go_wp2_with fail
        refine hK.out _ _ K1 (fun hHeld => ?_)
        clear hK K
        try simp only [oR20_2, Act.put, List.setIfInBounds_toArray, List.set_cons_zero, List.set_cons_succ]
        refine wpAnyH_ready (rs := [3]) (by kernel_rfl) (by simp) ?_
        refine AllReadyH.cons (o := oR20_3) rfl (fun K hK => ?_) AllReadyH.nil
        unfold oR20_3
        go_simp
        go_wp2_with fail
        refine (SCrash14.sDiskCrash va x kp (unhide Dva).rd (unhide Dva).sum).mono ?_
        rintro e z ⟨y, hy, rfl, oy, bb⟩
        have RG := hide (show (0 : Int) ≠ 1 → OkD y.room y.ps from fun _ => by
          have h := OkS15.rg_crash (room := x.room) (ps := x.ps) kp (unhide Dva).ok
          rw [← hy] at h
          exact h)
        have DZ := hide ((unhide Dva).below bb)
        have NZ := hide (Bc.below (unhide Nva) bb (unhide Nva).lt.2)
        have OY := hide (row_base oy (show w.heap.size ≤ va.heap.size from by have := (unhide Dva).rb.lt.2; omega))
        have KZ : z.cell? ⟨bd, 0, none⟩ = some (.int .i64 x.room) ∧ z.cell? ⟨bd, 1, none⟩ = some (.slice x.a x.ps.length x.c) := ⟨(unhide DZ).bx.c0, (unhide DZ).bx.c1⟩
        have q0 := (unhide NZ).c0
        have q1 := (unhide NZ).c1
        have t0 := (unhide NZ).free 0
        have t1 := (unhide NZ).free 1
        have st := grow_grow ((unhide NZ).set0 (.int .i64 y.room)).2 (bc_set1 ((unhide NZ).set0 (.int .i64 y.room)).1 (.slice y.a y.ps.length y.c)).2
        have NS := hide (bc_set1 ((unhide NZ).set0 (.int .i64 y.room)).1 (.slice y.a y.ps.length y.c)).1
        have nn := (unhide NZ).lt
        have bln := (unhide DZ).bx.lt.2
        have DS := hide ((unhide DZ).aside st hc hs (by omega) (by omega) (row_ne (unhide NZ) (unhide DZ).ow (by decide) rfl))
        have OS := hide (World.ownsRow.kept (unhide OY) st (.inr (row_ne (unhide NZ) (unhide OY) (by decide) rfl)))
        have KS : ((z.setCell ⟨bn, 0, none⟩ (.int .i64 y.room)).setCell ⟨bn, 1, none⟩ (.slice y.a y.ps.length y.c)).cell? ⟨bd, 0, none⟩ = some (.int .i64 x.room) ∧ ((z.setCell ⟨bn, 0, none⟩ (.int .i64 y.room)).setCell ⟨bn, 1, none⟩ (.slice y.a y.ps.length y.c)).cell? ⟨bd, 1, none⟩ = some (.slice x.a x.ps.length x.c) := ⟨(unhide DS).bx.c0, (unhide DS).bx.c1⟩
        clear st oy bb hy
        go_wp2_with fail
        refine hK.out _ _ KZ (fun hHeld => ?_)
        clear hK K
        try simp only [oR20_3, Act.put, List.setIfInBounds_toArray, List.set_cons_zero, List.set_cons_succ]
        refine wpAnyH_ready (rs := [4]) (by kernel_rfl) (by simp) ?_
        refine AllReadyH.cons (o := oR20_4) rfl (fun K hK => ?_) AllReadyH.nil
        unfold oR20_4
        go_simp
        refine hK.out _ _ KS (fun hHeld => ?_)
        clear hK K
        try simp only [oR20_4, Act.put, List.setIfInBounds_toArray, List.set_cons_zero, List.set_cons_succ]
        refine wpAnyH_done (by kernel_rfl) ?_ _
        clear K0 K1 KZ KS q0 q1 t0 t1
        generalize ((z.setCell ⟨bn, 0, none⟩ (.int .i64 y.room)).setCell ⟨bn, 1, none⟩ (.slice y.a y.ps.length y.c)) = zz at *
        have p0 := (unhide NS).c0
        have p1 := (unhide NS).c1
        have d0 := (unhide DS).bx.c0
        have d1 := (unhide DS).bx.c1
        have e0 := (unhide DS).bx.free 0
        have e1 := (unhide DS).bx.free 1
        have DP := hide ((unhide DS).put hc hs (unhide OS) ((unhide RG) (by decide)))
        go_wp2
        go_roundw
        case rel => exact ⟨k + 1, y, sg, rfl, by go_num, by omega, by omega, by omega, DP⟩
        case measure => simp [intOf]; omega
      · have m0 := (unhide DV).bx.c0
        have m1 := (unhide DV).bx.c1
        have Dva := DV
        have Nva := Nv
        go_wp2_with fail
        refine (SMend15.sSegMend v x sg (unhide DV).rd (unhide DV).sum).mono ?_
        rintro e z ⟨y, hy, rfl, oy, bb⟩
        have RG := hide (show (mendD x.room x.ps sg).2 ≠ 1 → OkD y.room y.ps from fun q => by
          have h := OkS15.rg_mend (room := x.room) (ps := x.ps) sg (unhide DV).ok q
          rw [← hy] at h
          exact h)
        have DZ := hide ((unhide DV).below bb)
        have NZ := hide (Bc.below (unhide Nv) bb (unhide Nv).lt.2)
        have OY := hide (row_base oy (show w.heap.size ≤ v.heap.size from by have := (unhide DV).rb.lt.2; omega))
        generalize (mendD x.room x.ps sg).2 = code at *
        have KZ : z.cell? ⟨bd, 0, none⟩ = some (.int .i64 x.room) ∧ z.cell? ⟨bd, 1, none⟩ = some (.slice x.a x.ps.length x.c) := ⟨(unhide DZ).bx.c0, (unhide DZ).bx.c1⟩
        have q0 := (unhide NZ).c0
        have q1 := (unhide NZ).c1
        have t0 := (unhide NZ).free 0
        have t1 := (unhide NZ).free 1
        have st := grow_grow ((unhide NZ).set0 (.int .i64 y.room)).2 (bc_set1 ((unhide NZ).set0 (.int .i64 y.room)).1 (.slice y.a y.ps.length y.c)).2
        have NS := hide (bc_set1 ((unhide NZ).set0 (.int .i64 y.room)).1 (.slice y.a y.ps.length y.c)).1
        have nn := (unhide NZ).lt
        have bln := (unhide DZ).bx.lt.2
        have DS := hide ((unhide DZ).aside st hc hs (by omega) (by omega) (row_ne (unhide NZ) (unhide DZ).ow (by decide) rfl))
        have OS := hide (World.ownsRow.kept (unhide OY) st (.inr (row_ne (unhide NZ) (unhide OY) (by decide) rfl)))
        have KS : ((z.setCell ⟨bn, 0, none⟩ (.int .i64 y.room)).setCell ⟨bn, 1, none⟩ (.slice y.a y.ps.length y.c)).cell? ⟨bd, 0, none⟩ = some (.int .i64 x.room) ∧ ((z.setCell ⟨bn, 0, none⟩ (.int .i64 y.room)).setCell ⟨bn, 1, none⟩ (.slice y.a y.ps.length y.c)).cell? ⟨bd, 1, none⟩ = some (.slice x.a x.ps.length x.c) := ⟨(unhide DS).bx.c0, (unhide DS).bx.c1⟩
        clear st oy bb hy
        clear KZ KS m0 m1
        have p0 := (unhide NS).c0
        have p1 := (unhide NS).c1
        have d0 := (unhide DS).bx.c0
        have d1 := (unhide DS).bx.c1
        have e0 := (unhide DS).bx.free 0
        have e1 := (unhide DS).bx.free 1
        by_cases q : code = 1
        · have qb : (code != 1) = false := by simpa using q
          clear q
          go_wp2
          go_roundw
          case rel => exact ⟨k + 1, x, sg, rfl, by go_num, by omega, by omega, by omega, DS⟩
          case measure => simp [intOf]; omega
        · have qb : (code != 1) = true := by simpa using q
          have DP := hide ((unhide DS).put hc hs (unhide OS) ((unhide RG) q))
          clear q
          go_wp2
          go_roundw
          case rel => exact ⟨k + 1, y, sg, rfl, by go_num, by omega, by omega, by omega, DP⟩
          case measure => simp [intOf]; omega
    · have qb : ¬ (k : Int) < y := q
      go_wp2_with fail
      refine (once w0 _ c a len cap 20 hl (unhide HC) (unhide D7).m.1 (by omega)).mono ?_
      rintro e v9 ⟨⟨t, rfl⟩, mv⟩
      have D9 := hide ((unhide D7).moved mv hc)
      clear mv D7
      have r0 := (unhide D9).rb.c0
      have r1 := (unhide D9).rb.c1
      have f0 := (unhide D9).rb.free 0
      have f1 := (unhide D9).rb.free 1
      cases t with
      | true =>
        clear r0 r1 f0 f1
        go_wp2_with fail
        refine (drawDisk w0 v9 c a len cap hl (unhide HC) (unhide D9).m.1).mono ?_
        rintro e va ⟨z, sm, rfl, oz, mv⟩
        have RB := hide (row_only (unhide D9).rb mv.2 hc)
        have OZ := hide (row_base oz (show w.heap.size ≤ v9.heap.size from Nat.le_of_lt (unhide D9).rb.lt.2))
        have MM := hide ((unhide D9).m.trans mv)
        have r0 := (show Bc va w.heap.size w.heap.size (.int .i64 0) (.slice none 0 0) from unhide RB).c0
        have r1 := (show Bc va w.heap.size w.heap.size (.int .i64 0) (.slice none 0 0) from unhide RB).c1
        have f0 := (show Bc va w.heap.size w.heap.size (.int .i64 0) (.slice none 0 0) from unhide RB).free 0
        have f1 := (show Bc va w.heap.size w.heap.size (.int .i64 0) (.slice none 0 0) from unhide RB).free 1
        have s0 := Bc.set0 (show Bc va w.heap.size w.heap.size (.int .i64 0) (.slice none 0 0) from unhide RB) (.int .i64 z.room)
        have s1 := bc_set1 s0.1 (.slice z.a z.ps.length z.c)
        have ST := hide (grow_grow s0.2 s1.2)
        have EM := hide (moved_grown (unhide MM) (unhide ST) hc (Nat.le_refl _) hs)
        have EO := hide (World.ownsRow.kept (unhide OZ) (unhide ST) (.inr (row_ne (unhide RB) (unhide OZ) (by decide) rfl)))
        clear s0 s1 mv oz
        go_wp2
        refine bodyPost_ret (v := .agg #[.int .i64 z.room, .slice z.a z.ps.length z.c]) (by simp [results, Try.results37, go_sem, r0, r1]) rfl ⟨z, sm, rfl, unhide EO, unhide EM⟩
      | false =>
        have b0 := (unhide D9).bx.c0
        have b1 := (unhide D9).bx.c1
        have s0 := (unhide D9).rb.set0 (.int .i64 x.room)
        have s1 := bc_set1 s0.1 (.slice x.a x.ps.length x.c)
        have ST := hide (grow_grow s0.2 s1.2)
        have EM := hide (moved_grown (unhide D9).m (unhide ST) hc (Nat.le_refl _) hs)
        have EO := hide (World.ownsRow.kept (unhide D9).ow (unhide ST) (.inr (row_ne (unhide D9).rb (unhide D9).ow (by decide) rfl)))
        have OK := hide (show Sm x from ⟨by have := (unhide D9).ok.2.1; omega, by have := (unhide D9).ok.2.2.1; have := (unhide D9).ok.1; omega⟩)
        clear s0 s1
        go_wp2
        refine bodyPost_ret (v := .agg #[.int .i64 x.room, .slice x.a x.ps.length x.c]) (by simp [results, Try.results37, go_sem, r0, r1]) rfl ⟨x, unhide OK, rfl, unhide EO, unhide EM⟩
end Go.Proofs.Ytcajdiopgaoicaa.DrawG15
namespace Go.Proofs.Ytcajdiopgaoicaa.DrawC14
open Go.ChangeShapes Go.WideShapes Go.ChangeAt Go.RowKit Draw Draw11 DrawS11 DrawT14 DrawR14 DrawD14
open DiskH14 (sumZ one_more)
open DkH14 (Dx RdD OwD Bc row_step)
open App14 (row_base row_kept kcell grow_grow)
open SLess14 (bc_set1)
/-- What a row keeps where only the cursor's block has turned. -/
theorem row_off {W W' : World} {base c : Nat} {e : TypeId} {m : Nat} {v : Value} {n : Nat} {vs : List Value} (h : W.ownsRow base e m v n vs) (o : Only c W W') (hc : v.ownBlock ≠ some c) : W'.ownsRow base e m v n vs := by
  refine ⟨h.1, ?_⟩
  rcases h.2 with h1 | ⟨g, k, cur, h1, h2, h3, h4⟩
  · exact .inl h1
  · exact .inr ⟨g, k, cur, h1, h2, (o.2 g (World.ownsRow.lt h g (by rw [h1]; rfl)).2 (fun e => hc (by rw [h1, e]; rfl))).trans h3, h4⟩
end Go.Proofs.Ytcajdiopgaoicaa.DrawC14
namespace Go.Proofs.Ytcajdiopgaoicaa.DrawA14
open Go.ChangeShapes Go.WideShapes Go.ChangeAt Go.RowKit Draw Draw11 DrawS11 DrawT14 DrawR14 DrawD14
open DiskH14 (sumZ one_more)
open DkH14 (Dx RdD OwD Bc row_step)
open App14 (row_base row_kept kcell grow_grow)
open SLess14 (bc_set1)
open SOk14 (OkD okN)
open DrawC14 (row_off)
/-- A world in which the disk is drawn and kept in its box. -/
structure Av (w w1 u1 W : World) (c bd : Nat) (a : Option Addr) (len cap : Nat) (y : Dx) : Prop where
  cu : Cur w1 W c a len cap
  bx : Bc W w.heap.size bd (.int .i64 y.room) (.slice y.a y.ps.length y.c)
  rb : Bc W w.heap.size w.heap.size (.int .i64 0) (.slice none 0 0)
  ow : OwD W u1.heap.size y
  nb : bd ≠ c
  nr : w.heap.size ≠ c
  ne : bd ≠ w.heap.size
  hi : c < u1.heap.size
section
variable {w w1 u1 W W' : World} {c bd : Nat} {a : Option Addr} {len cap : Nat} {y : Dx}
theorem Av.moved (h : Av w w1 u1 W c bd a len cap y) (k : Moved w1 W W' c a len cap) : Av w w1 u1 W' c bd a len cap y :=
  ⟨k.1, row_off h.bx k.2 (by have := h.nb; simpa [Value.ownBlock] using this), row_off h.rb k.2 (by have := h.nr; simpa [Value.ownBlock] using this), row_only h.ow k.2 h.hi, h.nb, h.nr, h.ne, h.hi⟩
theorem Av.below (h : Av w w1 u1 W c bd a len cap y) (k : Below W.heap.size W W') : Av w w1 u1 W' c bd a len cap y :=
  ⟨cur_below h.cu k, h.bx.below k h.bx.lt.2, h.rb.below k h.rb.lt.2, row_step h.ow k, h.nb, h.nr, h.ne, h.hi⟩
theorem Av.drew (h : Av w w1 u1 W c bd a len cap y) : Av w w1 u1 W.drew c bd a len cap y := h.below (Below.refl _ _).drew
end
end Go.Proofs.Ytcajdiopgaoicaa.DrawA14
namespace Go.Proofs.Ytcajdiopgaoicaa.DrawK15
open Go.ChangeShapes Go.WideShapes Go.ChangeAt Go.RowKit Draw Draw11 DrawS11 DrawT14 DrawR14 DrawD14
open DiskH14 (sumZ one_more)
open DkH14 (Dx RdD OwD Bc row_step)
open App14 (row_base row_kept kcell grow_grow)
open SLess14 (bc_set1)
open SOk14 (OkD okN)
open DrawC14 (row_off)
open DrawA14 (Av)
open DrawG15 (drawSegs)
/-- One of the eight numbers that are drawn as segments. -/
def of8 (j : Nat) : Int := [0, 0, 1, 18, 19, 2, 20, -1].getD j 0
theorem of8_cells (u : World) (j : Nat) (h : j < 8) : (u.alloc (.cells #[.int .i64 0, .int .i64 0, .int .i64 1, .int .i64 18, .int .i64 19, .int .i64 2, .int .i64 20, .int .i64 (-1)] 3)).cell? ⟨u.heap.size, j, none⟩ = some (.int .i64 (of8 j)) := by
  have : j = 0 ∨ j = 1 ∨ j = 2 ∨ j = 3 ∨ j = 4 ∨ j = 5 ∨ j = 6 ∨ j = 7 := by omega
  rcases this with rfl | rfl | rfl | rfl | rfl | rfl | rfl | rfl <;> simp [of8]
theorem of8_in (j : Nat) (h : j < 8) : -1 ≤ of8 j ∧ of8 j ≤ 20 := by
  have : j = 0 ∨ j = 1 ∨ j = 2 ∨ j = 3 ∨ j = 4 ∨ j = 5 ∨ j = 6 ∨ j = 7 := by omega
  rcases this with rfl | rfl | rfl | rfl | rfl | rfl | rfl | rfl <;> simp [of8]
set_option maxRecDepth 100000 in
theorem drawSeg (w0 w : World) (c : Nat) (a : Option Addr) (len cap : Nat) (hl : len ≤ 1048576) (hcode : CodeAt w0 a len) (h : Cur w0 w c a len cap) :
    Calls Try.prog 39 #[.pointer (some ⟨c, 0, none⟩)] w fun e w' => (∃ n : Int, -1 ≤ n ∧ n ≤ 20 ∧ e = .returned (.int .i64 n)) ∧ Moved w0 w w' c a len cap := by
  have HC := hide hcode
  have hc := h.hi
  have M1 := hide (moved_alloc (moved_start h) #[.int .i64 0, .int .i64 0, .int .i64 1, .int .i64 18, .int .i64 19, .int .i64 2, .int .i64 20, .int .i64 (-1)] 3)
  have OC := hide (fun j hj => of8_cells w j hj)
  have SZ := hide (show w.heap.size < (w.alloc (.cells #[.int .i64 0, .int .i64 0, .int .i64 1, .int .i64 18, .int .i64 19, .int .i64 2, .int .i64 20, .int .i64 (-1)] 3)).heap.size by simp)
  clear hcode h
  go_enter Try.func39, Try.ntmps39
  go_wp2_with fail
  refine (pick w0 _ c a len cap w.heap.size 8 of8 hl (unhide HC) (unhide M1).1 (by omega) (by omega) (unhide SZ) (by omega) (unhide OC)).mono ?_
  rintro e u ⟨⟨j, hj, rfl⟩, mv⟩
  have M2 := hide ((unhide M1).trans mv)
  have B := of8_in j hj
  clear mv OC SZ M1
  generalize of8 j = n at *
  have HB := hide B
  clear B
  go_wp2
  go_ret
  exact ⟨⟨n, (unhide HB).1, (unhide HB).2, rfl⟩, unhide M2⟩
/-- The disk's world, and a list of numbers that is drawn behind it. -/
structure Kv (w w1 u1 W : World) (c bd : Nat) (a : Option Addr) (len cap : Nat) (y : Dx) (g n k : Nat) (ks : List Int) : Prop where
  av : Av w w1 u1 W c bd a len cap y
  ko : Ints.Own W u1.heap.size g n k ks
  gb : bd < g
section
variable {w w1 u1 W W' : World} {c bd : Nat} {a : Option Addr} {len cap : Nat} {y : Dx} {g n k : Nat} {ks : List Int}
theorem Kv.moved (h : Kv w w1 u1 W c bd a len cap y g n k ks) (m : Moved w1 W W' c a len cap) : Kv w w1 u1 W' c bd a len cap y g n k ks := ⟨h.av.moved m, row_only h.ko m.2 h.av.hi, h.gb⟩
theorem Kv.below (h : Kv w w1 u1 W c bd a len cap y g n k ks) (m : Below W.heap.size W W') : Kv w w1 u1 W' c bd a len cap y g n k ks := ⟨h.av.below m, h.ko.below m h.ko.lt.2, h.gb⟩
end
theorem Kv.grown {w w1 u1 W W' : World} {c bd : Nat} {a : Option Addr} {len cap : Nat} {y : Dx} {g n k g' n' k' : Nat} {ks ks' : List Int} (h : Kv w w1 u1 W c bd a len cap y g n k ks) (m : W.grownBy W' (some g)) (o : Ints.Own W' u1.heap.size g' n' k' ks') (l : g' = g ∨ g' = W.heap.size) : Kv w w1 u1 W' c bd a len cap y g' n' k' ks' := by
  have gl := h.ko.lt
  have hi := h.av.hi
  have lo := h.av.cu.lo
  have bl := h.av.bx.lt
  have gb := h.gb
  refine ⟨⟨Draw.cur_grown h.av.cu m (by omega) (by omega), h.av.bx.kept m (by simp; omega), h.av.rb.kept m (by simp; omega), World.ownsRow.kept h.av.ow m (.inr (row_ne h.ko h.av.ow (by decide) rfl)), h.av.nb, h.av.nr, h.av.ne, h.av.hi⟩, o, by omega⟩
end Go.Proofs.Ytcajdiopgaoicaa.DrawK15
