/- Lemmas. -/
import Derived.Test.YtcjgepkdpkhljaaGreatQG7
import Derived.Sort.Grow
import Derived.Maps.Ext
import Derived.Maps.RangeWalk
open Go.ChangeShapes Go.WideShapes Go.ChangeAt Go.RowKit
set_option linter.unusedVariables false
set_option linter.unusedSimpArgs false
set_option maxRecDepth 100000
set_option maxHeartbeats 32000000
namespace Go.Proofs.YtcjgepkdpkhljaaGreat
namespace Look
open Bals Triples SOk3
theorem drop_next{ps:List T3}{k:Nat}(h:k<ps.length):ps.drop k=el3 ps k::ps.drop (k+1):=by
 rw[List.drop_eq_getElem_cons h]
 simp[el3,List.getD,h]
theorem val_hit{ps:List T3}{k:Nat}{a i:Int}(h:k<ps.length)(e:(el3 ps k).1=a∧(el3 ps k).2.1=i):val (ps.drop k) a i=(el3 ps k).2.2:=by
 rw[drop_next h]
 unfold val
 rw[if_pos e]
theorem val_miss{ps:List T3}{k:Nat}{a i:Int}(h:k<ps.length)(e:¬((el3 ps k).1=a∧(el3 ps k).2.1=i)):val (ps.drop k) a i=val (ps.drop (k+1)) a i:=by
 rw[drop_next h,val,if_neg e]
theorem sOf(w:World)(g n cap:Nat)(ps:List T3)(a i:Int)(hl:ps.length=n)(h20:n≤1048576)(h:At3 w g ps):
  Calls Tryz.prog 59 #[.slice (some ⟨g,0,none⟩) n cap,.int .i64 a,.int .i64 i] w fun e w'=>e= .returned (.int .i64 (val ps a i))∧w'=w:=by
 go_enter Tryz.func59,Tryz.ntmps59
 go_wp2
 go_loop [7] (fun j=>∃(k:Nat),k≤n∧j= .int .i64 k∧Hid (val ps a i=val (ps.drop k) a i)) (fun j=>n-(intOf j).toNat)
 case atStart=>exact⟨0,by omega,rfl,zh rfl⟩
 case round=>
  obtain⟨k,hk,rfl,HV⟩:=hrel
  by_cases t:k<n
  ·obtain⟨e1,e2,e3⟩:=h k (by omega)
   have HIT:=zh (val_hit (ps:=ps) (k:=k) (a:=a) (i:=i) (by omega))
   have MISS:=zh (val_miss (ps:=ps) (k:=k) (a:=a) (i:=i) (by omega))
   clear h
   generalize (el3 ps k).1=x at *
   generalize (el3 ps k).2.1=y at *
   generalize (el3 ps k).2.2=z at *
   by_cases c1:x=a
   ·by_cases c2:y=i
    ·have V:=zh ((zu HV).trans ((zu HIT) ⟨c1,c2⟩))
     clear HIT MISS HV
     subst c1 c2
     go_wp2
     go_ret
     exact⟨by rw[zu V];rfl,rfl⟩
    ·have V:=zh ((zu HV).trans ((zu MISS) (fun r=>c2 r.2)))
     clear HIT MISS HV
     have c2b:(y==i)=false:=by simpa using c2
     subst c1
     go_wp2
     go_round
     case rel=>exact⟨k+1,by omega,by go_num,V⟩
     case measure=>simp[intOf];omega
   ·have V:=zh ((zu HV).trans ((zu MISS) (fun r=>c1 r.1)))
    clear HIT MISS HV
    have c1b:(x==a)=false:=by simpa using c1
    go_wp2
    go_round
    case rel=>exact⟨k+1,by omega,by go_num,V⟩
    case measure=>simp[intOf];omega
  ·obtain rfl:k=n:=by omega
   have V:=zh ((zu HV).trans (show val (ps.drop k) a i=0 by rw[List.drop_of_length_le (by omega)];rfl))
   clear HV h
   go_wp2
   go_ret
   exact⟨by rw[zu V];rfl,rfl⟩
theorem sTold(x:Int)(b c:Bool)(r:Int)(w:World)(h:(b=true∧Amt x∧r=x∧c=true)∨(¬(b=true∧Amt x)∧r=0∧c=false)):
  Calls Tryz.prog 108 #[.int .i64 x,.bool b] w fun e w'=>e= .returned (.tuple #[.int .i64 r,.bool c])∧w'=w:=by
 obtain⟨d,D⟩:=says_of (Amt x)
 cases b
 ·rcases h with⟨h1,_⟩|⟨_,rfl,rfl⟩
  ·cases h1
  ·go_enter Tryz.func108,Tryz.ntmps108
   go_wp2
   go_ret2
   exact⟨rfl,rfl⟩
 ·cases d
  ·rcases h with⟨_,h1,_⟩|⟨_,rfl,rfl⟩
   ·exact absurd h1 D.no
   ·go_enter Tryz.func108,Tryz.ntmps108
    go_wp2_with fail
    refine(sAmt x false _ D).mono ?_
    rintro e w1 ⟨rfl,rfl⟩
    go_wp2
    go_ret2
    exact⟨rfl,rfl⟩
  ·rcases h with⟨_,h1,rfl,rfl⟩|⟨h1,_⟩
   ·clear h1
    go_enter Tryz.func108,Tryz.ntmps108
    go_wp2_with fail
    refine(sAmt r true _ D).mono ?_
    rintro e w1 ⟨rfl,rfl⟩
    go_wp2
    go_ret2
    exact⟨rfl,rfl⟩
   ·exact absurd ⟨rfl,D.yes⟩ h1
theorem sum_near{ps:List T3}(i:Int)(hl:ps.length≤160)(h:∀j,j<ps.length→Amt (el3 ps j).2.2)(k:Nat)(hk:k≤ps.length): -200000000000000000≤sumI (ps.take k) i∧sumI (ps.take k) i≤200000000000000000:=by
 have:=sumI_bound i h k hk
 omega
theorem sSum(w:World)(g n cap:Nat)(ps:List T3)(i r:Int)(c:Bool)(hl:ps.length=n)(h20:n≤1048576)(hg:g<w.heap.size)(h:At3 w g ps)(hs:IsSum ps i r c):
  Calls Tryz.prog 95 #[.slice (some ⟨g,0,none⟩) n cap,.int .i64 i] w fun e w'=>e= .returned (.tuple #[.int .i64 r,.bool c])∧Below w.heap.size w w':=by
 obtain⟨ok,OK⟩:=says_of (Right ps)
 have H:=zh h
 have HS:=zh hs
 clear h hs
 go_enter Tryz.func95,Tryz.ntmps95
 go_wp2
 go_loopw [6,7] (fun s j wr=>∃(k:Nat),k≤n∧j= .int .i64 k∧s= .int .i64 (sumI (ps.take k) i)∧Below w.heap.size w wr∧(ok=false→k=0)) (fun _ j _=>n-(intOf j).toNat)
 case atStart=>exact⟨0,by omega,rfl,rfl,Below.refl _ _,fun _=>rfl⟩
 case round=>
  obtain⟨k,hk,rfl,rfl,hb,hf⟩:=hrel
  have A:=zh ((zu H).below hb hg)
  have HB:=zh hb
  have sz:=hb.size
  clear hb
  cases ok
  ·obtain rfl:k=0:=hf rfl
   by_cases t:0<n
   ·go_wp2_with fail
    refine(sOk _ g n cap ps false hl h20 (by omega) (zu A) OK).mono ?_
    rintro e w1 ⟨rfl,b1⟩
    have A1:=zh ((zu A).below b1 (by omega))
    have B1:=zh (next (zu HB) b1)
    have s1:=b1.size
    clear b1
    have z0:sumI [] i=0:=rfl
    rw[z0]
    go_wp2_with fail
    refine(sOk _ g n cap ps false hl h20 (by omega) (zu A1) OK).mono ?_
    rintro e w2 ⟨rfl,b2⟩
    have B2:=zh (next (zu B1) b2)
    clear b2
    go_wp2_with fail
    refine(sTold 0 false c r _ (by
     rcases zu HS with⟨h1,_⟩|⟨_,h2,h3⟩
     ·exact absurd h1 OK.no
     ·exact .inr ⟨fun q=>(by have:=q.1;cases this),h2,h3⟩)).mono ?_
    rintro e w3 ⟨rfl,rfl⟩
    go_wp2
    go_ret2
    exact⟨rfl,zu B2⟩
   ·exact absurd (show Right ps from⟨by omega,fun i hi=>by omega⟩) OK.no
  ·have RB:=zh (fun k hk=>sum_near (ps:=ps) i OK.yes.1 (fun j hj=>(OK.yes.2 j hj).2.2.1) k hk)
   by_cases t:k<n
   ·go_wp2_with fail
    refine(sOk _ g n cap ps true hl h20 (by omega) (zu A) OK).mono ?_
    rintro e w1 ⟨rfl,b1⟩
    obtain⟨e1,e2,e3⟩:=((zu A).below b1 (by omega)) k (by omega)
    have B1:=zh (next (zu HB) b1)
    clear b1
    have SN:=zh (sumI_next (ps:=ps) (k:=k) (by omega) i)
    have R1:=zh ((zu RB) (k+1) (by omega))
    rw[zu SN] at R1
    generalize (el3 ps k).1=x at *
    generalize (el3 ps k).2.1=y at *
    generalize (el3 ps k).2.2=z at *
    generalize sumI (ps.take k) i=S at *
    by_cases c1:y=i
    ·rw[if_pos c1] at SN R1
     have R2:=zu R1
     have wr1:IntKind.i64.wrap (S+z)=S+z:=by rw[IntKind.wrap_i64];omega
     clear R2
     subst c1
     go_wp2
     go_roundw
     case rel=>exact⟨k+1,by omega,by go_num,by rw[zu SN],zu B1,fun q=>by cases q⟩
     case measure=>simp[intOf];omega
    ·rw[if_neg c1] at SN R1
     have c1b:(y==i)=false:=by simpa using c1
     have SN:=zh ((zu SN).trans (Int.add_zero S))
     go_wp2
     go_roundw
     case rel=>exact⟨k+1,by omega,by go_num,by rw[zu SN],zu B1,fun q=>by cases q⟩
     case measure=>simp[intOf];omega
   ·obtain rfl:k=n:=by omega
    have e0:sumI (ps.take k) i=sumI ps i:=by rw[List.take_of_length_le (by omega)]
    rw[e0]
    clear e0
    go_wp2_with fail
    refine(sOk _ g k cap ps true hl h20 (by omega) (zu A) OK).mono ?_
    rintro e w2 ⟨rfl,b2⟩
    have B2:=zh (next (zu HB) b2)
    clear b2
    go_wp2_with fail
    refine(sTold (sumI ps i) true c r _ (by
     rcases zu HS with⟨h1,h2,h3,h4⟩|⟨h1,h2,h3⟩
     ·exact .inl ⟨rfl,h2,h3,h4⟩
     ·exact .inr ⟨fun q=>h1 ⟨OK.yes,q.2⟩,h2,h3⟩)).mono ?_
    rintro e w3 ⟨rfl,rfl⟩
    go_wp2
    go_ret2
    exact⟨rfl,zu B2⟩
theorem sum_is(ps:List T3)(i:Int):∃r c,IsSum ps i r c:=by
 by_cases h:Right ps∧Amt (sumI ps i)
 ·exact⟨_,_,.inl ⟨h.1,h.2,rfl,rfl⟩⟩
 ·exact⟨_,_,.inr ⟨h,rfl,rfl⟩⟩
end Look
namespace Legs
open Bals Triples SOk3 Look
theorem sRight(w:World)(g n cap:Nat)(ps:List T3)(ok:Bool)(hl:ps.length=n)(h20:n≤1048576)(h:At3 w g ps)(hok:Says ok (Formed ps)):
  Calls Tryz.prog 109 #[.slice (some ⟨g,0,none⟩) n cap] w fun e w'=>e= .returned (.bool ok)∧w'=w:=by
 by_cases nn:(160:Int)<(n:Int)
 ·obtain rfl:ok=false:=hok.not (fun r=>by have:=r.1;omega)
  clear hok h
  go_enter Tryz.func109,Tryz.ntmps109
  go_wp2
  go_ret
  exact⟨rfl,rfl⟩
 have H:=zh h
 clear h
 go_enter Tryz.func109,Tryz.ntmps109
 go_wp2
 go_loop [3] (fun i=>∃(k:Nat),k≤n∧i= .int .i64 k∧Hid (∀i,i<k→LegOk ps i)) (fun i=>n-(intOf i).toNat)
 case atStart=>exact⟨0,by omega,rfl,zh (fun i hi=>absurd hi (by omega))⟩
 case round=>
  obtain⟨k,hk,rfl,HG⟩:=hrel
  by_cases t:k<n
  ·obtain⟨e1,e2,e3⟩:=(zu H) k (by omega)
   obtain⟨b1,B1⟩:=says_of (NoOk (el3 ps k).1)
   obtain⟨b2,B2⟩:=says_of (NoOk (el3 ps k).2.1)
   obtain⟨b3,B3⟩:=says_of (Amt (el3 ps k).2.2)
   have ROW:=zh (show LegOk ps k↔(b1=true)∧(b2=true)∧(b3=true) from by unfold Says at B1 B2 B3;rw[B1,B2,B3];exact Iff.rfl)
   have BAD:=zh (show ¬LegOk ps k→ok=false from fun hr=>hok.not (fun r=>hr (r.2 k (by omega))))
   have GOOD:=zh (show LegOk ps k→∀i,i<k+1→LegOk ps i from fun hr i hi=>by
    by_cases e:i=k
    ·subst e;exact hr
    ·exact(zu HG) i (by omega))
   generalize (el3 ps k).1=x at *
   generalize (el3 ps k).2.1=y at *
   generalize (el3 ps k).2.2=z at *
   cases b1
   ·have OKF:=zh ((zu BAD) (fun hr=>by have:=(zu ROW).1 hr;cases this.1))
    clear BAD GOOD ROW
    go_wp2_with (first|(go_at_call 74;refine(sNo x false _ B1).mono ?_;rintro e w1 ⟨rfl,rfl⟩))
    go_ret
    exact⟨by rw[zu OKF];rfl,rfl⟩
   ·cases b2
    ·have OKF:=zh ((zu BAD) (fun hr=>by have:=(zu ROW).1 hr;cases this.2.1))
     clear BAD GOOD ROW
     go_wp2_with (first|(go_at_call 74;refine(sNo x true _ B1).mono ?_;rintro e w1 ⟨rfl,rfl⟩)|(go_at_call 74;refine(sNo y false _ B2).mono ?_;rintro e w1 ⟨rfl,rfl⟩))
     go_ret
     exact⟨by rw[zu OKF];rfl,rfl⟩
    ·cases b3
     ·have OKF:=zh ((zu BAD) (fun hr=>by have:=(zu ROW).1 hr;cases this.2.2))
      clear BAD GOOD ROW
      go_wp2_with (first|(go_at_call 74;refine(sNo x true _ B1).mono ?_;rintro e w1 ⟨rfl,rfl⟩)|(go_at_call 74;refine(sNo y true _ B2).mono ?_;rintro e w1 ⟨rfl,rfl⟩)|(go_at_call 86;refine(sAmt z false _ B3).mono ?_;rintro e w1 ⟨rfl,rfl⟩))
      go_ret
      exact⟨by rw[zu OKF];rfl,rfl⟩
     ·have GO:=zh ((zu GOOD) ((zu ROW).2 ⟨rfl,rfl,rfl⟩))
      clear BAD GOOD ROW
      go_wp2_with (first|(go_at_call 74;refine(sNo x true _ B1).mono ?_;rintro e w1 ⟨rfl,rfl⟩)|(go_at_call 74;refine(sNo y true _ B2).mono ?_;rintro e w1 ⟨rfl,rfl⟩)|(go_at_call 86;refine(sAmt z true _ B3).mono ?_;rintro e w1 ⟨rfl,rfl⟩))
      go_round
      case rel=>exact⟨k+1,by omega,by go_num,GO⟩
      case measure=>simp[intOf];omega
  ·obtain rfl:k=n:=by omega
   obtain rfl:ok=true:=hok.of ⟨by omega,by rw[hl];exact zu HG⟩
   clear hok
   go_wp2
   go_ret
   exact⟨rfl,rfl⟩
theorem at_drewN{w:World}{g:Nat}{ps:List T3}(h:At3 w g ps)(m:Nat):At3 (w.drewN m) g ps:=h
theorem sLegsOk(w:World)(g n cap:Nat)(ps:List T3)(ok:Bool)(hl:ps.length=n)(h20:n≤1048576)(h:At3 w g ps)(hok:Says ok (Formed ps∧Even ps)):
  Calls Tryz.prog 110 #[.slice (some ⟨g,0,none⟩) n cap] w fun e w'=>e= .returned (.bool ok)∧∃q,w'=w.drewN q:=by
 obtain⟨f,F⟩:=says_of (Formed ps)
 have H:=zh h
 clear h
 go_enter Tryz.func110,Tryz.ntmps110
 go_wp2_with fail
 refine(sRight _ g n cap ps f hl h20 (zu H) F).mono ?_
 rintro e w1 ⟨rfl,rfl⟩
 cases f
 ·obtain rfl:ok=false:=hok.not (fun r=>F.no r.1)
  go_wp2
  go_ret
  exact⟨rfl,0,rfl⟩
 have h160:n≤160:=by have:=F.yes.1;omega
 have RB:=zh (fun i k hk=>sum_near (ps:=ps) i F.yes.1 (fun j hj=>(F.yes.2 j hj).2.2) k hk)
 go_wp2
 go_loopw [3,4,5] (fun i _ _ wr=>∃(k:Nat),k≤n∧i= .int .i64 k∧At3 wr g ps∧Hid (∃q,wr=w1.drewN q)∧Hid (∀i,i<k→sumI ps (el3 ps i).2.1=0)) (fun i _ _ _=>n-(intOf i).toNat)
 case atStart=>exact⟨0,by omega,rfl,zu H,zh ⟨0,rfl⟩,zh (fun i hi=>absurd hi (by omega))⟩
 case round=>
  obtain⟨k,hk,rfl,hA,HQ,HG⟩:=hrel
  have HA:=zh hA
  clear hA
  by_cases t:k<n
  ·go_wp2
   go_loopw [4,5] (fun s j wr=>∃(m:Nat),m≤n∧j= .int .i64 m∧s= .int .i64 (sumI (ps.take m) (el3 ps k).2.1)∧At3 wr g ps∧Hid (∃q,wr=w1.drewN q)) (fun _ j _=>n-(intOf j).toNat)
   case atStart=>exact⟨0,by omega,rfl,rfl,zu HA,HQ⟩
   case round=>
    clear HA HQ
    obtain⟨m,hm,rfl,rfl,hA,HQ⟩:=hrel
    by_cases tm:m<n
    ·obtain⟨e1,e2,e3⟩:=hA m (by omega)
     have d2:=(hA k (by omega)).2.1
     have HA:=zh hA
     clear hA
     have SN:=zh (sumI_next (ps:=ps) (k:=m) (by omega) (el3 ps k).2.1)
     have R1:=zh ((zu RB) (el3 ps k).2.1 (m+1) (by omega))
     rw[zu SN] at R1
     generalize sumI (ps.take m) (el3 ps k).2.1=S at *
     generalize (el3 ps k).2.1=v at *
     generalize (el3 ps m).1=x at *
     generalize (el3 ps m).2.1=y at *
     generalize (el3 ps m).2.2=z at *
     by_cases c1:y=v
     ·rw[if_pos c1] at SN R1
      have R2:=zu R1
      have wr1:IntKind.i64.wrap (S+z)=S+z:=by rw[IntKind.wrap_i64];omega
      clear R2
      subst c1
      go_wp2_with fail
      go_quiet (fail)
      go_wp2
      go_roundw
      case rel=>exact⟨m+1,by omega,by go_num,by rw[zu SN],at_drewN (zu HA) _,zh (drewN_more (zu HQ) _)⟩
      case measure=>simp[intOf];omega
     ·rw[if_neg c1] at SN R1
      have c1b:(y==v)=false:=by simpa using c1
      have SN:=zh ((zu SN).trans (Int.add_zero S))
      go_wp2_with fail
      go_quiet (fail)
      go_wp2
      go_roundw
      case rel=>exact⟨m+1,by omega,by go_num,by rw[zu SN],at_drewN (zu HA) _,zh (drewN_more (zu HQ) _)⟩
      case measure=>simp[intOf];omega
    ·obtain rfl:m=n:=by omega
     have e0:sumI (ps.take m) (el3 ps k).2.1=sumI ps (el3 ps k).2.1:=by rw[List.take_of_length_le (by omega)]
     rw[e0]
     clear e0
     have HA:=zh hA
     clear hA
     have GO:=zh (show sumI ps (el3 ps k).2.1=0→∀i,i<k+1→sumI ps (el3 ps i).2.1=0 from fun hr i hi=>by
      by_cases e:i=k
      ·subst e;exact hr
      ·exact(zu HG) i (by omega))
     have BAD:=zh (show sumI ps (el3 ps k).2.1≠0→ok=false from fun hr=>hok.not (fun r=>hr (r.2 _)))
     generalize sumI ps (el3 ps k).2.1=S at *
     by_cases s0:S=0
     ·have G:=zh ((zu GO) s0)
      clear GO BAD
      subst s0
      go_wp2
      go_roundw
      case rel=>exact⟨k+1,by omega,by go_num,zu HA,HQ,G⟩
      case measure=>simp[intOf];omega
     ·have OKF:=zh ((zu BAD) s0)
      have s0b:(S==0)=false:=by simpa using s0
      clear GO BAD
      go_wp2
      go_ret
      exact⟨by rw[zu OKF];rfl,zu HQ⟩
  ·obtain rfl:k=n:=by omega
   obtain rfl:ok=true:=hok.of ⟨F.yes,even_of (by rw[hl];exact zu HG)⟩
   go_wp2
   go_ret
   exact⟨rfl,zu HQ⟩
end Legs
end Go.Proofs.YtcjgepkdpkhljaaGreat
