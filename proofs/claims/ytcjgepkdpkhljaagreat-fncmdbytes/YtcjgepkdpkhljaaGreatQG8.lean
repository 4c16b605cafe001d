/- Lemmas. -/
import Derived.Test.YtcjgepkdpkhljaaGreatQG7
import Derived.Deep.LoopGhost
open Go.ChangeShapes Go.WideShapes Go.ChangeAt Go.RowKit
set_option linter.unusedVariables false
set_option linter.unusedSimpArgs false
set_option maxRecDepth 100000
set_option maxHeartbeats 32000000
namespace Go.Proofs.YtcjgepkdpkhljaaGreat
namespace ITrade
open BMem Bks
open Tup8 (T8 el8 At8 Holds8 Own8)
open Lots (Says says_of NoOk)
open SOk5 (one_more)
theorem sOk(w:World)(g n cap:Nat)(ps:List T8)(ok:Bool)(hl:ps.length=n)(h20:n≤1048576)(hg:g<w.heap.size)(h:At8 w g ps)(hok:Says ok (TRight ps)):
  Calls Tryz.prog 69 #[.slice (some ⟨g,0,none⟩) n cap] w fun e w'=>e= .returned (.bool ok)∧Below w.heap.size w w':=by
 have HL:=zh hl
 by_cases nn:(30:Int)<(n:Int)
 ·obtain rfl:ok=false:=hok.not (fun r=>by have:=r.1;omega)
  clear hok h hl
  go_enter Tryz.func69,Tryz.ntmps69
  go_wp2
  go_ret
  exact⟨rfl,Below.refl _ _⟩
 have OK:=zh hok
 have H:=zh h
 clear hok h hl
 go_enter Tryz.func69,Tryz.ntmps69
 go_wp2
 go_loopw [3] (fun i wr=>∃(k:Nat),k≤n∧i= .int .i64 k∧Below w.heap.size w wr∧Hid (∀i,i<k→TRowOk ps i)) (fun i _=>n-(intOf i).toNat)
 case atStart=>exact⟨0,by omega,rfl,Below.refl _ _,zh (fun i hi=>absurd hi (by omega))⟩
 case round=>
  obtain⟨k,hk,rfl,hb,HG⟩:=hrel
  have HB:=zh hb
  have hs:=hb.size
  by_cases t:k<n
  ·obtain⟨d0,d1,d2,d3,d4,d5,d6,d7⟩:=(((zu H) k (by rw[zu HL];exact t)).below hb hg)
   have PR:k=0∨∃z:Int,Hid ((el8 ps (k-1)).1=z)∧0<k∧wr.cell? ⟨g,(k-1)*8,none⟩=some (.int .i64 z):=by
    by_cases k0:k=0
    ·exact .inl k0
    ·exact .inr ⟨_,zh rfl,by omega,(((zu H) (k-1) (by rw[zu HL];omega)).below hb hg).1⟩
   clear hb
   have ROW:=zh (show TRowOk ps k↔TOne (el8 ps k)∧(0<k→(el8 ps (k-1)).1<(el8 ps k).1) from Iff.rfl)
   have BAD:=zh (show ¬TRowOk ps k→ok=false from fun hr=>(zu OK).not (fun r=>hr (r.2 k (by rw[zu HL];exact t))))
   have GOOD:=zh (show TRowOk ps k→∀i,i<k+1→TRowOk ps i from fun hr i hi=>by
    by_cases e:i=k
    ·subst e;exact hr
    ·exact(zu HG) i (by omega))
   have EL:Hid (el8 ps k=((el8 ps k).1,(el8 ps k).2.1,(el8 ps k).2.2.1,(el8 ps k).2.2.2.1,(el8 ps k).2.2.2.2.1,(el8 ps k).2.2.2.2.2.1,(el8 ps k).2.2.2.2.2.2.1,(el8 ps k).2.2.2.2.2.2.2)):=rfl
   generalize (el8 ps k).1=x0 at *
   generalize (el8 ps k).2.1=x1 at *
   generalize (el8 ps k).2.2.1=x2 at *
   generalize (el8 ps k).2.2.2.1=x3 at *
   generalize (el8 ps k).2.2.2.2.1=x4 at *
   generalize (el8 ps k).2.2.2.2.2.1=x5 at *
   generalize (el8 ps k).2.2.2.2.2.2.1=x6 at *
   generalize (el8 ps k).2.2.2.2.2.2.2=x7 at *
   rw[zu EL] at ROW
   clear EL
   have NB:=zh (fun m=>(zu HB).trans ((below_drewN (one_more wr (.cells #[.int .i64 x0,.int .i64 x1,.int .i64 x2,.int .i64 x3,.int .i64 x4,.int .i64 x5,.int .i64 x6,.int .i64 x7] 82)) m).mono hs))
   obtain⟨b0,B0⟩:=says_of (NoOk x0)
   obtain⟨b1,B1⟩:=says_of (NoOk x1)
   obtain⟨b2,B2⟩:=says_of (NoOk x2)
   obtain⟨b3,B3⟩:=says_of (NoOk x3)
   obtain⟨b4,B4⟩:=says_of (NoOk x5)
   obtain⟨b6,B6⟩:=says_of (1≤x4∧x4≤1000000000000000)
   obtain⟨b7,B7⟩:=says_of (0≤x6∧x6≤1000000000000000)
   obtain⟨b8,B8⟩:=says_of (1≤x7∧x7≤3)
   cases b0
   ·have F:=zh ((zu BAD) (fun hr=>B0.no ((zu ROW).1 hr).1.1))
    clear BAD GOOD ROW PR
    go_wp2_with fail
    go_quiet (first|(go_at_call 74;refine Calls.quiet_of_same (SOk5.sNo _ false _ B0)))
    go_wp2
    go_ret
    exact⟨by rw[zu F];rfl,(zu NB) _⟩
   cases b1
   ·have F:=zh ((zu BAD) (fun hr=>B1.no ((zu ROW).1 hr).1.2.1))
    clear BAD GOOD ROW PR
    go_wp2_with fail
    go_quiet (first|(go_at_call 74;refine Calls.quiet_of_same (SOk5.sNo _ true _ B0))|(go_at_call 74;refine Calls.quiet_of_same (SOk5.sNo _ false _ B1)))
    go_wp2
    go_ret
    exact⟨by rw[zu F];rfl,(zu NB) _⟩
   cases b2
   ·have F:=zh ((zu BAD) (fun hr=>B2.no ((zu ROW).1 hr).1.2.2.1))
    clear BAD GOOD ROW PR
    go_wp2_with fail
    go_quiet (first|(go_at_call 74;refine Calls.quiet_of_same (SOk5.sNo _ true _ B0))|(go_at_call 74;refine Calls.quiet_of_same (SOk5.sNo _ true _ B1))|(go_at_call 74;refine Calls.quiet_of_same (SOk5.sNo _ false _ B2)))
    go_wp2
    go_ret
    exact⟨by rw[zu F];rfl,(zu NB) _⟩
   cases b3
   ·have F:=zh ((zu BAD) (fun hr=>B3.no ((zu ROW).1 hr).1.2.2.2.1))
    clear BAD GOOD ROW PR
    go_wp2_with fail
    go_quiet (first|(go_at_call 74;refine Calls.quiet_of_same (SOk5.sNo _ true _ B0))|(go_at_call 74;refine Calls.quiet_of_same (SOk5.sNo _ true _ B1))|(go_at_call 74;refine Calls.quiet_of_same (SOk5.sNo _ true _ B2))|(go_at_call 74;refine Calls.quiet_of_same (SOk5.sNo _ false _ B3)))
    go_wp2
    go_ret
    exact⟨by rw[zu F];rfl,(zu NB) _⟩
   cases b4
   ·have F:=zh ((zu BAD) (fun hr=>B4.no ((zu ROW).1 hr).1.2.2.2.2.1))
    clear BAD GOOD ROW PR
    go_wp2_with fail
    go_quiet (first|(go_at_call 74;refine Calls.quiet_of_same (SOk5.sNo _ true _ B0))|(go_at_call 74;refine Calls.quiet_of_same (SOk5.sNo _ true _ B1))|(go_at_call 74;refine Calls.quiet_of_same (SOk5.sNo _ true _ B2))|(go_at_call 74;refine Calls.quiet_of_same (SOk5.sNo _ true _ B3))|(go_at_call 74;refine Calls.quiet_of_same (SOk5.sNo _ false _ B4)))
    go_wp2
    go_ret
    exact⟨by rw[zu F];rfl,(zu NB) _⟩
   by_cases c:x1=x2
   ·have F:=zh ((zu BAD) (fun hr=>((zu ROW).1 hr).1.2.2.2.2.2.1 c))
    have hz:(x1==x2)=true:=by simp[c]
    clear BAD GOOD ROW c PR
    go_wp2_with fail
    go_quiet (first|(go_at_call 74;refine Calls.quiet_of_same (SOk5.sNo _ true _ B0))|(go_at_call 74;refine Calls.quiet_of_same (SOk5.sNo _ true _ B1))|(go_at_call 74;refine Calls.quiet_of_same (SOk5.sNo _ true _ B2))|(go_at_call 74;refine Calls.quiet_of_same (SOk5.sNo _ true _ B3))|(go_at_call 74;refine Calls.quiet_of_same (SOk5.sNo _ true _ B4)))
    go_wp2
    go_ret
    exact⟨by rw[zu F];rfl,(zu NB) _⟩
   have hz:(x1==x2)=false:=by simp[c]
   have C:=zh c
   clear c
   cases b6
   ·have F:=zh ((zu BAD) (fun hr=>B6.no ((zu ROW).1 hr).1.2.2.2.2.2.2.1))
    clear BAD GOOD ROW PR
    go_wp2_with fail
    go_quiet (first|(go_at_call 74;refine Calls.quiet_of_same (SOk5.sNo _ true _ B0))|(go_at_call 74;refine Calls.quiet_of_same (SOk5.sNo _ true _ B1))|(go_at_call 74;refine Calls.quiet_of_same (SOk5.sNo _ true _ B2))|(go_at_call 74;refine Calls.quiet_of_same (SOk5.sNo _ true _ B3))|(go_at_call 74;refine Calls.quiet_of_same (SOk5.sNo _ true _ B4))|(go_at_call 19;refine Calls.quiet_of_same (SOk5.sSome _ _ false _ B6)))
    go_wp2
    go_ret
    exact⟨by rw[zu F];rfl,(zu NB) _⟩
   cases b7
   ·have F:=zh ((zu BAD) (fun hr=>B7.no ((zu ROW).1 hr).1.2.2.2.2.2.2.2.1))
    clear BAD GOOD ROW PR
    go_wp2_with fail
    go_quiet (first|(go_at_call 74;refine Calls.quiet_of_same (SOk5.sNo _ true _ B0))|(go_at_call 74;refine Calls.quiet_of_same (SOk5.sNo _ true _ B1))|(go_at_call 74;refine Calls.quiet_of_same (SOk5.sNo _ true _ B2))|(go_at_call 74;refine Calls.quiet_of_same (SOk5.sNo _ true _ B3))|(go_at_call 74;refine Calls.quiet_of_same (SOk5.sNo _ true _ B4))|(go_at_call 19;refine Calls.quiet_of_same (SOk5.sSome _ _ true _ B6))|(go_at_call 19;refine Calls.quiet_of_same (SOk5.sSome _ _ false _ B7)))
    go_wp2
    go_ret
    exact⟨by rw[zu F];rfl,(zu NB) _⟩
   cases b8
   ·have F:=zh ((zu BAD) (fun hr=>B8.no ((zu ROW).1 hr).1.2.2.2.2.2.2.2.2))
    clear BAD GOOD ROW PR
    go_wp2_with fail
    go_quiet (first|(go_at_call 74;refine Calls.quiet_of_same (SOk5.sNo _ true _ B0))|(go_at_call 74;refine Calls.quiet_of_same (SOk5.sNo _ true _ B1))|(go_at_call 74;refine Calls.quiet_of_same (SOk5.sNo _ true _ B2))|(go_at_call 74;refine Calls.quiet_of_same (SOk5.sNo _ true _ B3))|(go_at_call 74;refine Calls.quiet_of_same (SOk5.sNo _ true _ B4))|(go_at_call 19;refine Calls.quiet_of_same (SOk5.sSome _ _ true _ B6))|(go_at_call 19;refine Calls.quiet_of_same (SOk5.sSome _ _ true _ B7))|(go_at_call 38;refine Calls.quiet_of_same (SOk5.sIn _ _ _ false _ B8)))
    go_wp2
    go_ret
    exact⟨by rw[zu F];rfl,(zu NB) _⟩
   have ONE:=zh (show TOne (x0,x1,x2,x3,x4,x5,x6,x7) from⟨B0.yes,B1.yes,B2.yes,B3.yes,B4.yes,zu C,B6.yes,B7.yes,B8.yes⟩)
   rcases PR with rfl|⟨z,Z,k0,pc⟩
   ·have G:=zh ((zu GOOD) ((zu ROW).2 ⟨zu ONE,fun h=>by omega⟩))
    clear BAD GOOD ROW ONE
    go_wp2_with fail
    go_quiet (first|(go_at_call 74;refine Calls.quiet_of_same (SOk5.sNo _ true _ B0))|(go_at_call 74;refine Calls.quiet_of_same (SOk5.sNo _ true _ B1))|(go_at_call 74;refine Calls.quiet_of_same (SOk5.sNo _ true _ B2))|(go_at_call 74;refine Calls.quiet_of_same (SOk5.sNo _ true _ B3))|(go_at_call 74;refine Calls.quiet_of_same (SOk5.sNo _ true _ B4))|(go_at_call 19;refine Calls.quiet_of_same (SOk5.sSome _ _ true _ B6))|(go_at_call 19;refine Calls.quiet_of_same (SOk5.sSome _ _ true _ B7))|(go_at_call 38;refine Calls.quiet_of_same (SOk5.sIn _ _ _ true _ B8)))
    go_wp2
    go_roundw
    case rel=>exact⟨1,by omega,by go_num,(zu NB) _,G⟩
    case measure=>simp[intOf];omega
   ·have k1:(0:Int)<(k:Int):=by omega
    have k2:(0:Int)≤(k:Int) -1:=by omega
    have k3:((k:Int) -1).toNat=k-1:=by omega
    have k4:IntKind.i64.wrap ((k:Int) -1)=(k:Int) -1:=by rw[IntKind.wrap_i64];omega
    have k5:(k:Int) -1<(n:Int):=by omega
    have gne:g≠wr.heap.size:=by omega
    have gs:g<wr.heap.size:=by omega
    by_cases c:z≥x0
    ·have F:=zh ((zu BAD) (fun hr=>by have:=((zu ROW).1 hr).2 k0;rw[zu Z] at this;omega))
     have hc:decide (z≥x0)=true:=decide_eq_true c
     clear BAD GOOD ROW ONE c
     go_wp2_with fail
     go_quiet (first|(go_at_call 74;refine Calls.quiet_of_same (SOk5.sNo _ true _ B0))|(go_at_call 74;refine Calls.quiet_of_same (SOk5.sNo _ true _ B1))|(go_at_call 74;refine Calls.quiet_of_same (SOk5.sNo _ true _ B2))|(go_at_call 74;refine Calls.quiet_of_same (SOk5.sNo _ true _ B3))|(go_at_call 74;refine Calls.quiet_of_same (SOk5.sNo _ true _ B4))|(go_at_call 19;refine Calls.quiet_of_same (SOk5.sSome _ _ true _ B6))|(go_at_call 19;refine Calls.quiet_of_same (SOk5.sSome _ _ true _ B7))|(go_at_call 38;refine Calls.quiet_of_same (SOk5.sIn _ _ _ true _ B8)))
     go_wp2
     go_ret
     exact⟨by rw[zu F];rfl,(zu NB) _⟩
    ·have G:=zh ((zu GOOD) ((zu ROW).2 ⟨zu ONE,fun _=>by rw[zu Z];omega⟩))
     have hc:decide (z≥x0)=false:=decide_eq_false c
     clear BAD GOOD ROW c ONE
     go_wp2_with fail
     go_quiet (first|(go_at_call 74;refine Calls.quiet_of_same (SOk5.sNo _ true _ B0))|(go_at_call 74;refine Calls.quiet_of_same (SOk5.sNo _ true _ B1))|(go_at_call 74;refine Calls.quiet_of_same (SOk5.sNo _ true _ B2))|(go_at_call 74;refine Calls.quiet_of_same (SOk5.sNo _ true _ B3))|(go_at_call 74;refine Calls.quiet_of_same (SOk5.sNo _ true _ B4))|(go_at_call 19;refine Calls.quiet_of_same (SOk5.sSome _ _ true _ B6))|(go_at_call 19;refine Calls.quiet_of_same (SOk5.sSome _ _ true _ B7))|(go_at_call 38;refine Calls.quiet_of_same (SOk5.sIn _ _ _ true _ B8)))
     go_wp2
     go_roundw
     case rel=>exact⟨k+1,by omega,by go_num,(zu NB) _,G⟩
     case measure=>simp[intOf];omega
  ·clear hb
   have F:=zh ((zu OK).of ⟨by rw[zu HL];omega,fun i hi=>(zu HG) i (by rw[zu HL] at hi;omega)⟩)
   go_wp2
   go_ret
   exact⟨by rw[zu F];rfl,zu HB⟩
end ITrade
end Go.Proofs.YtcjgepkdpkhljaaGreat
