/- Disks: the specification's DiskRead. -/
import Derived.Test.YtejbbhjhinkcdaaSOk14
namespace Go.Proofs.Ytejbbhjhinkcdaa.SRd14
open Go.ChangeShapes Go.WideShapes Go.ChangeAt Go.RowKit Fil14 DiskH14 DkH14 SDk14 SOk14
set_option linter.unusedVariables false
set_option linter.unusedSimpArgs false
/-- All bytes of the file at a place. -/
def bytesAt (ps : List TF) (k : Nat) : ByteArray := (elF ps k).2.1 ++ (elF ps k).2.2
/-- What is read of a disk. -/
def readD (room : Int) (ps : List TF) (nm : Int) : ByteArray × Bool := if OkD room ps ∧ 0 ≤ findF ps nm then (bytesAt ps (findF ps nm).toNat, true) else (ByteArray.empty, false)
set_option maxRecDepth 100000 in
set_option maxHeartbeats 4000000 in
theorem sDiskRead (w : World) (x : Dx) (nm : Int) (hr : RdD w x) (hz : sumZ x.ps ≤ 1048576) :
    Calls Try.prog 15 #[.agg #[.int .i64 x.room, .slice x.a x.ps.length x.c], .int .i64 nm] w fun e w' => e = .returned (.tuple #[.string (readD x.room x.ps nm).1, .bool (readD x.room x.ps nm).2]) ∧ Below w.heap.size w w' := by
  have W0 := hide (Wd.made hr 26)
  have FD := hide (sFind _ x nm (unhide W0).r)
  have AT := hide (fun h => findF_in (ps := x.ps) (nm := nm) h)
  have RE := hide (show readD x.room x.ps nm = if OkD x.room x.ps ∧ 0 ≤ findF x.ps nm then (bytesAt x.ps (findF x.ps nm).toNat, true) else (ByteArray.empty, false) from rfl)
  generalize readD x.room x.ps nm = rr at *
  generalize findF x.ps nm = f at *
  have h20 := hr.n
  clear hr
  go_enter Try.func15, Try.ntmps15
  go_wp2_with fail
  refine (unhide FD).mono ?_
  rintro e w1 ⟨rfl, b1⟩
  have W1 := hide ((unhide W0).step b1)
  clear b1 FD W0
  have c0 := (unhide W1).c0
  have c1 := (unhide W1).c1
  have lt := (unhide W1).lt
  have OK0 := hide (sDiskOk w1 x (unhide W1).r hz)
  by_cases q : OkD x.room x.ps
  case neg =>
    have OK := hide (show Calls Try.prog 8 #[.agg #[.int .i64 x.room, .slice x.a x.ps.length x.c]] w1 fun e w' => e = .returned (.bool false) ∧ Below w1.heap.size w1 w' by have := unhide OK0; rw [decide_eq_false q] at this; exact this)
    have E := hide (show rr = (ByteArray.empty, false) by rw [unhide RE, if_neg (fun h => q h.1)])
    clear OK0 RE q AT
    go_wp2_with fail
    refine (unhide OK).mono ?_
    rintro e w2 ⟨rfl, b2⟩
    have W2 := hide ((unhide W1).step b2)
    clear b2
    go_wp2
    go_ret2
    exact ⟨by rw [unhide E]; rfl, (unhide W2).b⟩
  have OK := hide (show Calls Try.prog 8 #[.agg #[.int .i64 x.room, .slice x.a x.ps.length x.c]] w1 fun e w' => e = .returned (.bool true) ∧ Below w1.heap.size w1 w' by have := unhide OK0; rw [decide_eq_true q] at this; exact this)
  by_cases q0 : f < 0
  · have E := hide (show rr = (ByteArray.empty, false) by rw [unhide RE, if_neg (fun h => by omega)])
    clear OK0 RE q AT
    go_wp2_with fail
    refine (unhide OK).mono ?_
    rintro e w2 ⟨rfl, b2⟩
    have W2 := hide ((unhide W1).step b2)
    clear b2
    go_wp2
    go_ret2
    exact ⟨by rw [unhide E]; rfl, (unhide W2).b⟩
  · obtain ⟨k, rfl, kl, _⟩ := (unhide AT) (by omega)
    have E := hide (show rr = (bytesAt x.ps k, true) by rw [unhide RE, if_pos ⟨q, by omega⟩]; rfl)
    clear OK0 RE q AT
    have kt : (k : Int) < x.ps.length := by omega
    go_wp2_with fail
    refine (unhide OK).mono ?_
    rintro e w2 ⟨rfl, b2⟩
    have W2 := hide ((unhide W1).step b2)
    clear b2 c0 c1 lt W1
    have c1 := (unhide W2).c1
    have lt := (unhide W2).lt
    obtain ⟨g, ea, lg, d0, d1, d2⟩ := cells_of (unhide W2).r kl
    have ES := hide (show bytesAt x.ps k = (elF x.ps k).2.1 ++ (elF x.ps k).2.2 from rfl)
    have NX := sumZ_next kl
    have LE := sumZ_le x.ps (k + 1)
    have s1 : (elF x.ps k).2.1.size + (elF x.ps k).2.2.size ≤ 1048576 := by omega
    generalize (elF x.ps k).2.1 = z1 at *
    generalize (elF x.ps k).2.2 = z2 at *
    rw [ea] at c1
    clear ea NX LE
    go_wp2_with fail
    go_region
    go_wp2
    go_ret2
    exact ⟨by rw [unhide E, unhide ES]; rfl, (unhide W2).b.drew⟩
/-- The place of a file, and a code. -/
def atD (room : Int) (ps : List TF) (nm : Int) : Int × Int := if OkD room ps ∧ okN nm = true then (findF ps nm, if findF ps nm < 0 then 2 else 0) else (-1, 1)
set_option maxRecDepth 100000 in
set_option maxHeartbeats 4000000 in
theorem sAt (w : World) (x : Dx) (nm : Int) (hr : RdD w x) (hz : sumZ x.ps ≤ 1048576) :
    Calls Try.prog 45 #[.agg #[.int .i64 x.room, .slice x.a x.ps.length x.c], .int .i64 nm] w fun e w' => e = .returned (.tuple #[.int .i64 (atD x.room x.ps nm).1, .int .i64 (atD x.room x.ps nm).2]) ∧ Below w.heap.size w w' := by
  have W0 := hide (Wd.made hr 26)
  have OK0 := hide (sDiskOk _ x (unhide W0).r hz)
  have NM0 := hide (fun u => sName u nm)
  have FD := hide (fun u h => sFind u x nm h)
  have RE := hide (show atD x.room x.ps nm = if OkD x.room x.ps ∧ okN nm = true then (findF x.ps nm, if findF x.ps nm < 0 then 2 else 0) else (-1, 1) from rfl)
  generalize atD x.room x.ps nm = rr at *
  generalize findF x.ps nm = f at *
  clear hr
  by_cases q : OkD x.room x.ps
  case neg =>
    have OK := hide (show Calls Try.prog 8 #[.agg #[.int .i64 x.room, .slice x.a x.ps.length x.c]] _ fun e w' => e = .returned (.bool false) ∧ Below _ _ w' by have := unhide OK0; rw [decide_eq_false q] at this; exact this)
    have E := hide (show rr = (-1, 1) by rw [unhide RE, if_neg (fun h => q h.1)])
    clear OK0 RE q NM0 FD
    go_enter Try.func45, Try.ntmps45
    go_wp2_with fail
    refine (unhide OK).mono ?_
    rintro e w2 ⟨rfl, b2⟩
    have W2 := hide ((unhide W0).step b2)
    clear b2 W0 OK
    go_wp2
    go_ret2
    exact ⟨by rw [unhide E]; rfl, (unhide W2).b⟩
  have OK := hide (show Calls Try.prog 8 #[.agg #[.int .i64 x.room, .slice x.a x.ps.length x.c]] _ fun e w' => e = .returned (.bool true) ∧ Below _ _ w' by have := unhide OK0; rw [decide_eq_true q] at this; exact this)
  cases qn : okN nm
  · have NM := hide (fun u => by have := (unhide NM0) u; rw [qn] at this; exact this)
    have E := hide (show rr = (-1, 1) by rw [unhide RE, if_neg (fun h => by rw [qn] at h; exact absurd h.2 (by simp))])
    clear OK0 RE q NM0 FD
    go_enter Try.func45, Try.ntmps45
    go_wp2_with fail
    refine (unhide OK).mono ?_
    rintro e w2 ⟨rfl, b2⟩
    have W2 := hide ((unhide W0).step b2)
    clear b2 W0 OK
    go_wp2_with fail
    refine (unhide NM _).mono ?_
    rintro e w3 ⟨rfl, rfl⟩
    go_wp2
    go_ret2
    exact ⟨by rw [unhide E]; rfl, (unhide W2).b⟩
  · have NM := hide (fun u => by have := (unhide NM0) u; rw [qn] at this; exact this)
    have E := hide (show rr = (f, if f < 0 then 2 else 0) by rw [unhide RE, if_pos ⟨q, qn⟩])
    clear OK0 RE q NM0
    by_cases q0 : f < 0
    · have E1 := hide (show rr = (f, 2) by rw [unhide E, if_pos q0])
      clear E
      go_enter Try.func45, Try.ntmps45
      go_wp2_with fail
      refine (unhide OK).mono ?_
      rintro e w2 ⟨rfl, b2⟩
      have W2 := hide ((unhide W0).step b2)
      clear b2 W0 OK
      go_wp2_with fail
      refine (unhide NM _).mono ?_
      rintro e w3 ⟨rfl, rfl⟩
      have c0 := (unhide W2).c0
      have c1 := (unhide W2).c1
      go_wp2_with fail
      refine ((unhide FD) _ (unhide W2).r).mono ?_
      rintro e w4 ⟨rfl, b4⟩
      have W4 := hide ((unhide W2).step b4)
      clear b4 W2 c0 c1 FD
      go_wp2
      go_ret2
      exact ⟨by rw [unhide E1]; rfl, (unhide W4).b⟩
    · have E1 := hide (show rr = (f, 0) by rw [unhide E, if_neg q0])
      clear E
      go_enter Try.func45, Try.ntmps45
      go_wp2_with fail
      refine (unhide OK).mono ?_
      rintro e w2 ⟨rfl, b2⟩
      have W2 := hide ((unhide W0).step b2)
      clear b2 W0 OK
      go_wp2_with fail
      refine (unhide NM _).mono ?_
      rintro e w3 ⟨rfl, rfl⟩
      have c0 := (unhide W2).c0
      have c1 := (unhide W2).c1
      go_wp2_with fail
      refine ((unhide FD) _ (unhide W2).r).mono ?_
      rintro e w4 ⟨rfl, b4⟩
      have W4 := hide ((unhide W2).step b4)
      clear b4 W2 c0 c1 FD
      go_wp2
      go_ret2
      exact ⟨by rw [unhide E1]; rfl, (unhide W4).b⟩
