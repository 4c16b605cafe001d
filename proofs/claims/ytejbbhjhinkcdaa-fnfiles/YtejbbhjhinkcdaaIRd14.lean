/- Disks: the program's DiskRead. -/
import Derived.Test.YtejbbhjhinkcdaaICom14
import Derived.Test.YtejbbhjhinkcdaaSRd14
namespace Go.Proofs.Ytejbbhjhinkcdaa.IRd14
open Go.ChangeShapes Go.WideShapes Go.ChangeAt Go.RowKit Fil14 DiskH14 DkH14 SDk14 SOk14 SRd14 App14 SLess14 SCopy14 SRef14 SCom14 SPut14 TabF14 PTab14 IFile14 ITb14 ICp14 IDk14 ICom14
set_option linter.unusedVariables false
set_option linter.unusedSimpArgs false
set_option maxRecDepth 100000 in
set_option maxHeartbeats 4000000 in
theorem iDiskRead (w : World) (x : Dx) (nm : Int) (hr : RdD w x) (hz : sumZ x.ps ≤ 1048576) (hw : Wf nm) : Calls Try.prog 9 #[.agg #[.int .i64 x.room, .slice x.a x.ps.length x.c], .int .i64 nm] w fun e w' => e = .returned (.tuple #[.string (readD x.room x.ps nm).1, .bool (readD x.room x.ps nm).2]) ∧ Below w.heap.size w w' := by
  have W0 := hide (Wd.made hr 26)
  have OK0 := hide (fun b h => iOkB _ x b (unhide W0).r hz h)
  have RE := hide (show readD x.room x.ps nm = if OkD x.room x.ps ∧ 0 ≤ findF x.ps nm then (bytesAt x.ps (findF x.ps nm).toNat, true) else (ByteArray.empty, false) from rfl)
  have WF := hide hw
  generalize readD x.room x.ps nm = rr at *
  clear hr hw
  by_cases ok : OkD x.room x.ps
  case neg =>
    obtain rfl : rr = (ByteArray.empty, false) := by rw [unhide RE, if_neg (fun h => ok h.1)]
    have OKD := hide (decide_eq_false ok)
    clear ok RE
    go_enter Try.func9, Try.ntmps9
    go_wp2_with fail
    refine ((unhide OK0) false (unhide OKD)).mono ?_
    rintro e u ⟨rfl, b1⟩
    have B := hide ((unhide W0).b.trans (b1.mono (unhide W0).b.size))
    clear b1 W0 OK0
    go_wp2
    go_ret2
    exact ⟨rfl, unhide B⟩
  have OKD := hide (decide_eq_true ok)
  have TL := hide (tl_ok ok)
  have WN := hide (wf_names ok)
  obtain ⟨p, b, fn, HP, HI, SZ⟩ : ∃ (p : TF) (b : Bool), rr = (p.2.1 ++ p.2.2, b) ∧ (tabOf x.ps nm).getD z0 = p ∧ (tabOf x.ps nm).isSome = b ∧ p.2.1.size + p.2.2.size ≤ 1048576 := by
    by_cases q : findF x.ps nm < 0
    · have FN := tl_no (unhide TL) q
      exact ⟨z0, false, by rw [unhide RE, if_neg (by omega)]; rfl, by rw [FN]; rfl, by rw [FN]; rfl, by simp⟩
    · obtain ⟨k, ek, kl, en⟩ := findF_in (ps := x.ps) (nm := nm) (by omega)
      have FY := tl_yes (unhide TL) kl en
      exact ⟨elF x.ps k, true, by rw [unhide RE, if_pos ⟨ok, by omega⟩, ek]; rfl, by rw [FY]; rfl, by rw [FY]; rfl, el_size hz kl⟩
  subst fn
  obtain ⟨p0, p1, p2⟩ := p
  have HP := hide HP
  have HI := hide HI
  clear ok RE TL
  simp only at SZ
  go_enter Try.func9, Try.ntmps9
  go_wp2_with fail
  refine ((unhide OK0) true (unhide OKD)).mono ?_
  rintro e u ⟨rfl, b1⟩
  have WU := hide ((unhide W0).step b1)
  clear b1 W0 OK0
  have c0 := (unhide WU).c0
  have c1 := (unhide WU).c1
  have lt := (unhide WU).lt
  go_wp2_with fail
  refine (iTable _ x (unhide WU).r (unhide WN)).mono ?_
  rintro e u1 ⟨rfl, tt, b2⟩
  have T1 := hide tt
  have B1 := hide (((unhide WU).b.trans (b2.mono (unhide WU).b.size)).trans ((one_more u1 (.cells #[.int .i64 p0, .string p1, .string p2] 32)).mono (Nat.le_trans (unhide WU).b.size b2.size)))
  clear tt b2 WU c0 c1 lt
  go_wp2_with (first | (at_lookup; refine wp_have _ rfl _ _ rfl (u.heap.size + 1) _ _ rfl (unhide T1) nm rfl (unhide WF) _ b (unhide HP) (unhide HI) ?_) | fail)
  refine (iText _ p0 p1 p2 SZ).mono ?_
  rintro e u3 ⟨rfl, b3⟩
  have B3 := hide ((unhide B1).trans (b3.mono (unhide B1).size))
  clear b3
  go_wp2
  go_ret2
  exact ⟨rfl, unhide B3⟩
end Go.Proofs.Ytejbbhjhinkcdaa.IRd14
