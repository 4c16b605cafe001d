/- Texts of one proof. -/
import Derived.Test.YtlbgfdpcgpijhaaGreatQA5
import Derived.WalkSmall
open Go.ChangeShapes Go.WideShapes Go.ChangeAt Go.RowKit
set_option linter.unusedVariables false
set_option linter.unusedSimpArgs false
set_option maxRecDepth 100000
set_option maxHeartbeats 32000000
namespace Go.Proofs.YtlbgfdpcgpijhaaGreat
namespace AccountIOk
open Pairs Chart
def ahead(ps:List (Int×Int))(k:Nat):Int:=if k=0 then 0 else(el ps (k-1)).1
theorem ahead_next(ps:List (Int×Int))(k:Nat):ahead ps (k+1)=(el ps k).1:=by unfold ahead;rw[if_neg (by omega)];rfl
theorem row_iff(last:Int)(ps:List (Int×Int))(k:Nat)(hG:∀i,i<k→RowOk last ps i):RowOk last ps k↔¬(el ps k).1≤ahead ps k∧(el ps k).1≤1000∧1≤(el ps k).2∧(el ps k).2≤last:=by
 unfold RowOk ahead
 by_cases k0:k=0
 ·subst k0
  rw[if_pos rfl]
  constructor
  ·rintro⟨⟨a,b⟩,⟨c,d⟩,_⟩
   exact⟨by omega,b,c,d⟩
  ·rintro⟨a,b,c,d⟩
   exact⟨⟨by omega,b⟩,⟨c,d⟩,fun h=>by omega⟩
 ·rw[if_neg k0]
  have:=(hG (k-1) (by omega)).1.1
  constructor
  ·rintro⟨⟨a,b⟩,⟨c,d⟩,e⟩
   have:=e (by omega)
   exact⟨by omega,b,c,d⟩
  ·rintro⟨a,b,c,d⟩
   exact⟨⟨by omega,b⟩,⟨c,d⟩,fun h=>by omega⟩
theorem iOk(w:World)(g n cap:Nat)(ps:List (Int×Int))(ok:Bool)(hl:ps.length=n)(h20:n≤1048576)(hg:g<w.heap.size)(h:At w g ps)(hok:Says ok 20 4 ps):
  Calls Tryz.prog 183 #[.agg #[.slice (some ⟨g,0,none⟩) n cap,.int .i64 20,.int .i64 4]] w fun e w'=>e= .returned (.bool ok)∧Below w.heap.size w w':=by
 by_cases nn:(20:Int)<(n:Int)
 ·obtain rfl:ok=false:=hok.not (fun r=>by have:=r.1;omega)
  clear hok h
  go_enter Tryz.func183,Tryz.ntmps183
  go_wp2
  go_ret
  exact⟨rfl,(Below.refl _ _).alloc (Nat.le_refl _) _⟩
 go_enter Tryz.func183,Tryz.ntmps183
 go_wp2
 go_loopw [3,16] (fun p i wr=>∃(k:Nat) (bf:Int),k≤n∧i= .int .i64 k∧p= .int .i64 bf∧Hid (ahead ps k=bf)∧At wr g ps∧wr.cell? ⟨w.heap.size,2,none⟩=some (.int .i64 4)∧Below w.heap.size w wr∧w.heap.size<wr.heap.size∧Hid (∀i,i<k→RowOk 4 ps i)) (fun _ i _=>n-(intOf i).toNat)
 case atStart=>
  have b1:Below w.heap.size w (w.alloc (.cells #[.slice (some ⟨g,0,none⟩) n cap,.int .i64 20,.int .i64 4] 208)):=(Below.refl _ _).alloc (Nat.le_refl _) _
  exact⟨0,0,by omega,rfl,rfl,zh rfl,h.below b1 hg,by simp,b1,by simp,zh (fun i hi=>absurd hi (by omega))⟩
 case round=>
  clear h
  obtain⟨k,bf,hk,rfl,rfl,HP,h,cl,hb,sz,HG⟩:=hrel
  by_cases t:k<n
  ·obtain⟨e1,e2⟩:=h k (by omega)
   have HA:=zh h
   have HB:=zh hb
   clear h hb
   have ROW:=zh (row_iff 4 ps k (zu HG))
   rw[zu HP] at ROW
   have AN:=zh (ahead_next ps k)
   have BAD:=zh (show ¬RowOk 4 ps k→ok=false from fun hr=>hok.not (fun r=>hr (r.2 k (by omega))))
   have GOOD:=zh (show RowOk 4 ps k→∀i,i<k+1→RowOk 4 ps i from fun hr i hi=>by
    by_cases e:i=k
    ·subst e;exact hr
    ·exact(zu HG) i (by omega))
   generalize (el ps k).1=x at *
   generalize (el ps k).2=y at *
   by_cases c1:x≤bf
   ·have OKF:=zh ((zu BAD) (fun hr=>by have:=(zu ROW).1 hr;omega))
    clear BAD GOOD ROW
    go_wp2
    go_ret
    exact⟨by rw[zu OKF];rfl,next (zu HB) (by repeat(first|exact Below.refl _ _|refine Below.alloc ?_ (by simp;try omega) _))⟩
   ·by_cases c2:x≤1000
    ·by_cases c3:1≤y
     ·by_cases c4:y≤4
      ·have GO:=zh ((zu GOOD) ((zu ROW).2 ⟨c1,c2,c3,c4⟩))
       clear BAD GOOD ROW
       go_wp2
       go_roundw
       case rel=>
        have b2:Below wr.heap.size wr ((wr.alloc (.cells #[.int .i64 x,.int .i64 y] 108)).alloc (.cells #[.int .i64 x,.int .i64 y] 226)):=by repeat(first|exact Below.refl _ _|refine Below.alloc ?_ (by simp;try omega) _)
        exact⟨k+1,_,by omega,by go_num,rfl,zu AN,(zu HA).below b2 (by omega),(b2.cell (p:=⟨w.heap.size,2,none⟩) (by omega)).trans cl,next (zu HB) b2,by simp;omega,GO⟩
       case measure=>simp[intOf];omega
      ·have OKF:=zh ((zu BAD) (fun hr=>by have:=(zu ROW).1 hr;omega))
       clear BAD GOOD ROW
       go_wp2
       go_ret
       exact⟨by rw[zu OKF];rfl,next (zu HB) (by repeat(first|exact Below.refl _ _|refine Below.alloc ?_ (by simp;try omega) _))⟩
     ·have OKF:=zh ((zu BAD) (fun hr=>by have:=(zu ROW).1 hr;omega))
      clear BAD GOOD ROW
      go_wp2
      go_ret
      exact⟨by rw[zu OKF];rfl,next (zu HB) (by repeat(first|exact Below.refl _ _|refine Below.alloc ?_ (by simp;try omega) _))⟩
    ·have OKF:=zh ((zu BAD) (fun hr=>by have:=(zu ROW).1 hr;omega))
     clear BAD GOOD ROW
     go_wp2
     go_ret
     exact⟨by rw[zu OKF];rfl,next (zu HB) (by repeat(first|exact Below.refl _ _|refine Below.alloc ?_ (by simp;try omega) _))⟩
  ·obtain rfl:k=n:=by omega
   obtain rfl:ok=true:=hok.of ⟨by omega,by rw[hl];exact zu HG⟩
   have HB:=zh hb
   clear h hok hb
   go_wp2
   go_ret
   exact⟨rfl,zu HB⟩
end AccountIOk
namespace InstrIOk
open Pairs Chart
def ahead(ps:List (Int×Int))(k:Nat):Int:=if k=0 then 0 else(el ps (k-1)).1
theorem ahead_next(ps:List (Int×Int))(k:Nat):ahead ps (k+1)=(el ps k).1:=by unfold ahead;rw[if_neg (by omega)];rfl
theorem row_iff(last:Int)(ps:List (Int×Int))(k:Nat)(hG:∀i,i<k→RowOk last ps i):RowOk last ps k↔¬(el ps k).1≤ahead ps k∧(el ps k).1≤1000∧1≤(el ps k).2∧(el ps k).2≤last:=by
 unfold RowOk ahead
 by_cases k0:k=0
 ·subst k0
  rw[if_pos rfl]
  constructor
  ·rintro⟨⟨a,b⟩,⟨c,d⟩,_⟩
   exact⟨by omega,b,c,d⟩
  ·rintro⟨a,b,c,d⟩
   exact⟨⟨by omega,b⟩,⟨c,d⟩,fun h=>by omega⟩
 ·rw[if_neg k0]
  have:=(hG (k-1) (by omega)).1.1
  constructor
  ·rintro⟨⟨a,b⟩,⟨c,d⟩,e⟩
   have:=e (by omega)
   exact⟨by omega,b,c,d⟩
  ·rintro⟨a,b,c,d⟩
   exact⟨⟨by omega,b⟩,⟨c,d⟩,fun h=>by omega⟩
theorem iOk(w:World)(g n cap:Nat)(ps:List (Int×Int))(ok:Bool)(hl:ps.length=n)(h20:n≤1048576)(hg:g<w.heap.size)(h:At w g ps)(hok:Says ok 8 2 ps):
  Calls Tryz.prog 185 #[.agg #[.slice (some ⟨g,0,none⟩) n cap,.int .i64 8,.int .i64 2]] w fun e w'=>e= .returned (.bool ok)∧Below w.heap.size w w':=by
 by_cases nn:(8:Int)<(n:Int)
 ·obtain rfl:ok=false:=hok.not (fun r=>by have:=r.1;omega)
  clear hok h
  go_enter Tryz.func185,Tryz.ntmps185
  go_wp2
  go_ret
  exact⟨rfl,(Below.refl _ _).alloc (Nat.le_refl _) _⟩
 go_enter Tryz.func185,Tryz.ntmps185
 go_wp2
 go_loopw [3,16] (fun p i wr=>∃(k:Nat) (bf:Int),k≤n∧i= .int .i64 k∧p= .int .i64 bf∧Hid (ahead ps k=bf)∧At wr g ps∧wr.cell? ⟨w.heap.size,2,none⟩=some (.int .i64 2)∧Below w.heap.size w wr∧w.heap.size<wr.heap.size∧Hid (∀i,i<k→RowOk 2 ps i)) (fun _ i _=>n-(intOf i).toNat)
 case atStart=>
  have b1:Below w.heap.size w (w.alloc (.cells #[.slice (some ⟨g,0,none⟩) n cap,.int .i64 8,.int .i64 2] 211)):=(Below.refl _ _).alloc (Nat.le_refl _) _
  exact⟨0,0,by omega,rfl,rfl,zh rfl,h.below b1 hg,by simp,b1,by simp,zh (fun i hi=>absurd hi (by omega))⟩
 case round=>
  clear h
  obtain⟨k,bf,hk,rfl,rfl,HP,h,cl,hb,sz,HG⟩:=hrel
  by_cases t:k<n
  ·obtain⟨e1,e2⟩:=h k (by omega)
   have HA:=zh h
   have HB:=zh hb
   clear h hb
   have ROW:=zh (row_iff 2 ps k (zu HG))
   rw[zu HP] at ROW
   have AN:=zh (ahead_next ps k)
   have BAD:=zh (show ¬RowOk 2 ps k→ok=false from fun hr=>hok.not (fun r=>hr (r.2 k (by omega))))
   have GOOD:=zh (show RowOk 2 ps k→∀i,i<k+1→RowOk 2 ps i from fun hr i hi=>by
    by_cases e:i=k
    ·subst e;exact hr
    ·exact(zu HG) i (by omega))
   generalize (el ps k).1=x at *
   generalize (el ps k).2=y at *
   by_cases c1:x≤bf
   ·have OKF:=zh ((zu BAD) (fun hr=>by have:=(zu ROW).1 hr;omega))
    clear BAD GOOD ROW
    go_wp2
    go_ret
    exact⟨by rw[zu OKF];rfl,next (zu HB) (by repeat(first|exact Below.refl _ _|refine Below.alloc ?_ (by simp;try omega) _))⟩
   ·by_cases c2:x≤1000
    ·by_cases c3:1≤y
     ·by_cases c4:y≤2
      ·have GO:=zh ((zu GOOD) ((zu ROW).2 ⟨c1,c2,c3,c4⟩))
       clear BAD GOOD ROW
       go_wp2
       go_roundw
       case rel=>
        have b2:Below wr.heap.size wr ((wr.alloc (.cells #[.int .i64 x,.int .i64 y] 109)).alloc (.cells #[.int .i64 x,.int .i64 y] 226)):=by repeat(first|exact Below.refl _ _|refine Below.alloc ?_ (by simp;try omega) _)
        exact⟨k+1,_,by omega,by go_num,rfl,zu AN,(zu HA).below b2 (by omega),(b2.cell (p:=⟨w.heap.size,2,none⟩) (by omega)).trans cl,next (zu HB) b2,by simp;omega,GO⟩
       case measure=>simp[intOf];omega
      ·have OKF:=zh ((zu BAD) (fun hr=>by have:=(zu ROW).1 hr;omega))
       clear BAD GOOD ROW
       go_wp2
       go_ret
       exact⟨by rw[zu OKF];rfl,next (zu HB) (by repeat(first|exact Below.refl _ _|refine Below.alloc ?_ (by simp;try omega) _))⟩
     ·have OKF:=zh ((zu BAD) (fun hr=>by have:=(zu ROW).1 hr;omega))
      clear BAD GOOD ROW
      go_wp2
      go_ret
      exact⟨by rw[zu OKF];rfl,next (zu HB) (by repeat(first|exact Below.refl _ _|refine Below.alloc ?_ (by simp;try omega) _))⟩
    ·have OKF:=zh ((zu BAD) (fun hr=>by have:=(zu ROW).1 hr;omega))
     clear BAD GOOD ROW
     go_wp2
     go_ret
     exact⟨by rw[zu OKF];rfl,next (zu HB) (by repeat(first|exact Below.refl _ _|refine Below.alloc ?_ (by simp;try omega) _))⟩
  ·obtain rfl:k=n:=by omega
   obtain rfl:ok=true:=hok.of ⟨by omega,by rw[hl];exact zu HG⟩
   have HB:=zh hb
   clear h hok hb
   go_wp2
   go_ret
   exact⟨rfl,zu HB⟩
end InstrIOk
namespace SOk3
open Bals Triples
theorem sIn(x lo hi:Int)(b:Bool)(w:World)(hb:Says b (lo≤x∧x≤hi)):
  Calls Tryz.prog 29 #[.int .i64 x,.int .i64 lo,.int .i64 hi] w fun e w'=>e= .returned (.bool b)∧w'=w:=by
 by_cases h1:lo≤x
 ·by_cases h2:x≤hi
  ·obtain rfl:b=true:=hb.of ⟨h1,h2⟩
   clear hb
   go_enter Tryz.func29,Tryz.ntmps29
   go_wp2
   go_ret
   exact⟨rfl,rfl⟩
  ·obtain rfl:b=false:=hb.not (fun r=>h2 r.2)
   clear hb
   go_enter Tryz.func29,Tryz.ntmps29
   go_wp2
   go_ret
   exact⟨rfl,rfl⟩
 ·obtain rfl:b=false:=hb.not (fun r=>h1 r.1)
  clear hb
  go_enter Tryz.func29,Tryz.ntmps29
  go_wp2
  go_ret
  exact⟨rfl,rfl⟩
theorem sNo(x:Int)(b:Bool)(w:World)(hb:Says b (NoOk x)):
  Calls Tryz.prog 130 #[.int .i64 x] w fun e w'=>e= .returned (.bool b)∧w'=w:=by
 go_enter Tryz.func130,Tryz.ntmps130
 go_wp2_with fail
 refine(sIn x 1 1000 b _ hb).mono ?_
 rintro e w' ⟨rfl,rfl⟩
 go_wp2
 go_ret
 exact⟨rfl,rfl⟩
theorem sAmt(x:Int)(b:Bool)(w:World)(hb:Says b (Amt x)):
  Calls Tryz.prog 131 #[.int .i64 x] w fun e w'=>e= .returned (.bool b)∧w'=w:=by
 go_enter Tryz.func131,Tryz.ntmps131
 go_wp2_with fail
 refine(sIn x (-1000000000000000) 1000000000000000 b _ hb).mono ?_
 rintro e w' ⟨rfl,rfl⟩
 go_wp2
 go_ret
 exact⟨rfl,rfl⟩
theorem sBefore(a i c j:Int)(b:Bool)(w:World)(hb:Says b (a<c∨(a=c∧i<j))):
  Calls Tryz.prog 132 #[.int .i64 a,.int .i64 i,.int .i64 c,.int .i64 j] w fun e w'=>e= .returned (.bool b)∧w'=w:=by
 by_cases h1:a<c
 ·obtain rfl:b=true:=hb.of (.inl h1)
  clear hb
  go_enter Tryz.func132,Tryz.ntmps132
  go_wp2
  go_ret
  exact⟨rfl,rfl⟩
 ·by_cases h2:a=c
  ·subst h2
   by_cases h3:i<j
   ·obtain rfl:b=true:=hb.of (.inr ⟨rfl,h3⟩)
    clear hb
    go_enter Tryz.func132,Tryz.ntmps132
    go_wp2
    go_ret
    exact⟨rfl,rfl⟩
   ·obtain rfl:b=false:=hb.not (fun r=>by omega)
    clear hb
    go_enter Tryz.func132,Tryz.ntmps132
    go_wp2
    go_ret
    exact⟨rfl,rfl⟩
  ·obtain rfl:b=false:=hb.not (fun r=>by omega)
   clear hb
   go_enter Tryz.func132,Tryz.ntmps132
   go_wp2
   go_ret
   exact⟨rfl,rfl⟩
theorem one_more(w:World)(o:Obj):Below w.heap.size w (w.alloc o):=(Below.refl _ _).alloc (Nat.le_refl _) _
theorem sOk(w:World)(g n cap:Nat)(ps:List T3)(ok:Bool)(hl:ps.length=n)(h20:n≤1048576)(hg:g<w.heap.size)(h:At3 w g ps)(hok:Says ok (Right ps)):
  Calls Tryz.prog 70 #[.slice (some ⟨g,0,none⟩) n cap] w fun e w'=>e= .returned (.bool ok)∧Below w.heap.size w w':=by
 by_cases nn:(160:Int)<(n:Int)
 ·obtain rfl:ok=false:=hok.not (fun r=>by have:=r.1;omega)
  clear hok h
  go_enter Tryz.func70,Tryz.ntmps70
  go_wp2
  go_ret
  exact⟨rfl,Below.refl _ _⟩
 have H:=zh h
 clear h
 go_enter Tryz.func70,Tryz.ntmps70
 go_wp2
 go_loopw [3,4] (fun i _ wr=>∃(k:Nat),k≤n∧i= .int .i64 k∧Below w.heap.size w wr∧Hid (∀i,i<k→RowOk ps i)) (fun i _ _=>n-(intOf i).toNat)
 case atStart=>exact⟨0,by omega,rfl,Below.refl _ _,zh (fun i hi=>absurd hi (by omega))⟩
 case round=>
  obtain⟨k,hk,rfl,hb,HG⟩:=hrel
  by_cases t:k<n
  ·have hA:=(zu H).below hb hg
   obtain⟨e1,e2,e3⟩:=hA k (by omega)
   have e4:0<k→wr.cell? ⟨g,(k-1)*3,none⟩=some (.int .i64 (el3 ps (k-1)).1):=fun k0=>(hA (k-1) (by omega)).1
   have e5:0<k→wr.cell? ⟨g,(k-1)*3+1,none⟩=some (.int .i64 (el3 ps (k-1)).2.1):=fun k0=>(hA (k-1) (by omega)).2.1
   have gs:g<wr.heap.size:=Nat.lt_of_lt_of_le hg hb.size
   have gne:g≠wr.heap.size:=by omega
   clear hA
   have HB:=zh hb
   clear hb
   obtain⟨b1,B1⟩:=says_of (NoOk (el3 ps k).1)
   obtain⟨b2,B2⟩:=says_of (NoOk (el3 ps k).2.1)
   obtain⟨b3,B3⟩:=says_of (Amt (el3 ps k).2.2)
   obtain⟨b4,B4⟩:=says_of ((el3 ps (k-1)).1<(el3 ps k).1∨((el3 ps (k-1)).1=(el3 ps k).1∧(el3 ps (k-1)).2.1<(el3 ps k).2.1))
   have ROW:=zh (show RowOk ps k↔(b1=true)∧(b2=true)∧(b3=true)∧(el3 ps k).2.2≠0∧(0<k→b4=true) from by unfold Says at B1 B2 B3 B4;rw[B1,B2,B3,B4];exact Iff.rfl)
   have BAD:=zh (show ¬RowOk ps k→ok=false from fun hr=>hok.not (fun r=>hr (r.2 k (by omega))))
   have GOOD:=zh (show RowOk ps k→∀i,i<k+1→RowOk ps i from fun hr i hi=>by
    by_cases e:i=k
    ·subst e;exact hr
    ·exact(zu HG) i (by omega))
   generalize (el3 ps k).1=x at *
   generalize (el3 ps k).2.1=y at *
   generalize (el3 ps k).2.2=z at *
   generalize (el3 ps (k-1)).1=u at *
   generalize (el3 ps (k-1)).2.1=v at *
   have NB:=zh (fun m=>next (zu HB) (below_drewN (one_more wr (.cells #[.int .i64 x,.int .i64 y,.int .i64 z] 111)) m))
   cases b1
   ·clear e4 e5 B4
    have OKF:=zh ((zu BAD) (fun hr=>by have:=(zu ROW).1 hr;cases this.1))
    clear BAD GOOD ROW
    go_wp2_with fail
    go_quiet (first|(go_at_call 130;refine Calls.quiet_of_same (sNo _ false _ B1)))
    go_wp2
    go_ret
    exact⟨by rw[zu OKF];rfl,(zu NB) _⟩
   ·cases b2
    ·clear e4 e5 B4
     have OKF:=zh ((zu BAD) (fun hr=>by have:=(zu ROW).1 hr;cases this.2.1))
     clear BAD GOOD ROW
     go_wp2_with fail
     go_quiet (first|(go_at_call 130;refine Calls.quiet_of_same (sNo _ true _ B1))|(go_at_call 130;refine Calls.quiet_of_same (sNo _ false _ B2)))
     go_wp2
     go_ret
     exact⟨by rw[zu OKF];rfl,(zu NB) _⟩
    ·cases b3
     ·clear e4 e5 B4
      have OKF:=zh ((zu BAD) (fun hr=>by have:=(zu ROW).1 hr;cases this.2.2.1))
      clear BAD GOOD ROW
      go_wp2_with fail
      go_quiet (first|(go_at_call 130;refine Calls.quiet_of_same (sNo _ true _ B1))|(go_at_call 130;refine Calls.quiet_of_same (sNo _ true _ B2))|(go_at_call 131;refine Calls.quiet_of_same (sAmt _ false _ B3)))
      go_wp2
      go_ret
      exact⟨by rw[zu OKF];rfl,(zu NB) _⟩
     ·by_cases z0:z=0
      ·subst z0
       clear e4 e5 B4
       have OKF:=zh ((zu BAD) (fun hr=>by have:=(zu ROW).1 hr;exact this.2.2.2.1 rfl))
       clear BAD GOOD ROW
       go_wp2_with fail
       go_quiet (first|(go_at_call 130;refine Calls.quiet_of_same (sNo _ true _ B1))|(go_at_call 130;refine Calls.quiet_of_same (sNo _ true _ B2))|(go_at_call 131;refine Calls.quiet_of_same (sAmt _ true _ B3)))
       go_wp2
       go_ret
       exact⟨by rw[zu OKF];rfl,(zu NB) _⟩
      ·have zb:(z==0)=false:=by simpa using z0
       by_cases k0:0<k
       ·have e4:=e4 k0
        have e5:=e5 k0
        have k1:(0:Int)<(k:Int):=by omega
        have k2:(0:Int)≤(k:Int) -1:=by omega
        have k3:((k:Int) -1).toNat=k-1:=by omega
        have k4:IntKind.i64.wrap ((k:Int) -1)=(k:Int) -1:=by rw[IntKind.wrap_i64];omega
        have k5:(k:Int) -1<(n:Int):=by omega
        cases b4
        ·have OKF:=zh ((zu BAD) (fun hr=>by have:=(zu ROW).1 hr;cases this.2.2.2.2 k0))
         clear BAD GOOD ROW
         go_wp2_with fail
         go_quiet (first|(go_at_call 130;refine Calls.quiet_of_same (sNo _ true _ B1))|(go_at_call 130;refine Calls.quiet_of_same (sNo _ true _ B2))|(go_at_call 131;refine Calls.quiet_of_same (sAmt _ true _ B3))|(go_at_call 132;refine Calls.quiet_of_same (sBefore _ _ _ _ false _ B4)))
         go_wp2
         go_ret
         exact⟨by rw[zu OKF];rfl,(zu NB) _⟩
        ·have GO:=zh ((zu GOOD) ((zu ROW).2 ⟨rfl,rfl,rfl,z0,fun _=>rfl⟩))
         clear BAD GOOD ROW
         go_wp2_with fail
         go_quiet (first|(go_at_call 130;refine Calls.quiet_of_same (sNo _ true _ B1))|(go_at_call 130;refine Calls.quiet_of_same (sNo _ true _ B2))|(go_at_call 131;refine Calls.quiet_of_same (sAmt _ true _ B3))|(go_at_call 132;refine Calls.quiet_of_same (sBefore _ _ _ _ true _ B4)))
         go_wp2
         go_roundw
         case rel=>exact⟨k+1,by omega,by go_num,(zu NB) _,GO⟩
         case measure=>simp[intOf];omega
       ·obtain rfl:k=0:=by omega
        clear e4 e5 B4
        have GO:=zh ((zu GOOD) ((zu ROW).2 ⟨rfl,rfl,rfl,z0,fun h0=>absurd h0 k0⟩))
        clear BAD GOOD ROW
        go_wp2_with fail
        go_quiet (first|(go_at_call 130;refine Calls.quiet_of_same (sNo _ true _ B1))|(go_at_call 130;refine Calls.quiet_of_same (sNo _ true _ B2))|(go_at_call 131;refine Calls.quiet_of_same (sAmt _ true _ B3)))
        go_wp2
        go_roundw
        case rel=>exact⟨1,by omega,by go_num,(zu NB) _,GO⟩
        case measure=>simp[intOf];omega
  ·obtain rfl:k=n:=by omega
   obtain rfl:ok=true:=hok.of ⟨by omega,by rw[hl];exact zu HG⟩
   have HB:=zh hb
   clear hb hok
   go_wp2
   go_ret
   exact⟨rfl,zu HB⟩
end SOk3
end Go.Proofs.YtlbgfdpcgpijhaaGreat
