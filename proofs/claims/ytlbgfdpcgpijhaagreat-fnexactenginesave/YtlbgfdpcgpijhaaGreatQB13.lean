/- Texts of one proof. -/
import Derived.Test.YtlbgfdpcgpijhaaGreatQB6
import Derived.Test.YtlbgfdpcgpijhaaGreatQB9
import Derived.Test.YtlbgfdpcgpijhaaGreatQB12
open Go.ChangeShapes Go.WideShapes Go.ChangeAt Go.RowKit
set_option linter.unusedVariables false
set_option linter.unusedSimpArgs false
set_option maxRecDepth 100000
set_option maxHeartbeats 32000000
namespace Go.Proofs.YtlbgfdpcgpijhaaGreat
namespace Look
open Bals Triples Cmp SOk3 IOk3 Tab
theorem drop_next{ps:List T3}{k:Nat}(h:k<ps.length):ps.drop k=el3 ps k::ps.drop (k+1):=by
 rw[List.drop_eq_getElem_cons h]
 simp[el3,List.getD,h]
theorem val_hit{ps:List T3}{k:Nat}{a i:Int}(h:k<ps.length)(e:(el3 ps k).1=a∧(el3 ps k).2.1=i):val (ps.drop k) a i=(el3 ps k).2.2:=by
 rw[drop_next h]
 unfold val
 rw[if_pos e]
theorem val_miss{ps:List T3}{k:Nat}{a i:Int}(h:k<ps.length)(e:¬((el3 ps k).1=a∧(el3 ps k).2.1=i)):val (ps.drop k) a i=val (ps.drop (k+1)) a i:=by
 rw[drop_next h,val,if_neg e]
theorem sOf(w:World)(g n cap:Nat)(ps:List T3)(a i:Int)(hl:ps.length=n)(h20:n≤1048576)(h:At3 w g ps):
  Calls Tryz.prog 139 #[.slice (some ⟨g,0,none⟩) n cap,.int .i64 a,.int .i64 i] w fun e w'=>e= .returned (.int .i64 (val ps a i))∧w'=w:=by
 go_enter Tryz.func139,Tryz.ntmps139
 go_wp2
 go_loop [7] (fun j=>∃(k:Nat),k≤n∧j= .int .i64 k∧Hid (val ps a i=val (ps.drop k) a i)) (fun j=>n-(intOf j).toNat)
 case atStart=>exact⟨0,by omega,rfl,zh rfl⟩
 case round=>
  obtain⟨k,hk,rfl,HV⟩:=hrel
  by_cases t:k<n
  ·obtain⟨e1,e2,e3⟩:=h k (by omega)
   have HIT:=zh (val_hit (ps:=ps) (k:=k) (a:=a) (i:=i) (by omega))
   have MISS:=zh (val_miss (ps:=ps) (k:=k) (a:=a) (i:=i) (by omega))
   clear h
   generalize (el3 ps k).1=x at *
   generalize (el3 ps k).2.1=y at *
   generalize (el3 ps k).2.2=z at *
   by_cases c1:x=a
   ·by_cases c2:y=i
    ·have V:=zh ((zu HV).trans ((zu HIT) ⟨c1,c2⟩))
     clear HIT MISS HV
     subst c1 c2
     go_wp2
     go_ret
     exact⟨by rw[zu V];rfl,rfl⟩
    ·have V:=zh ((zu HV).trans ((zu MISS) (fun r=>c2 r.2)))
     clear HIT MISS HV
     have c2b:(y==i)=false:=by simpa using c2
     subst c1
     go_wp2
     go_round
     case rel=>exact⟨k+1,by omega,by go_num,V⟩
     case measure=>simp[intOf];omega
   ·have V:=zh ((zu HV).trans ((zu MISS) (fun r=>c1 r.1)))
    clear HIT MISS HV
    have c1b:(x==a)=false:=by simpa using c1
    go_wp2
    go_round
    case rel=>exact⟨k+1,by omega,by go_num,V⟩
    case measure=>simp[intOf];omega
  ·obtain rfl:k=n:=by omega
   have V:=zh ((zu HV).trans (show val (ps.drop k) a i=0 by rw[List.drop_of_length_le (by omega)];rfl))
   clear HV h
   go_wp2
   go_ret
   exact⟨by rw[zu V];rfl,rfl⟩
theorem val_more(p:T3):∀(l:List T3),(∀q∈l,Bef q p)→∀a i,val (l++[p]) a i=upd (val l) p.1 p.2.1 p.2.2 a i
 |[],_,a,i=>by
  unfold upd
  simp only[List.nil_append,val]
  by_cases e:p.1=a∧p.2.1=i
  ·rw[if_pos e,if_pos ⟨e.1.symm,e.2.symm⟩]
  ·rw[if_neg e,if_neg (fun r=>e ⟨r.1.symm,r.2.symm⟩)]
 |q::r,h,a,i=>by
  have ih:=val_more p r (fun x hx=>h x (List.mem_cons_of_mem _ hx)) a i
  have b:=h q List.mem_cons_self
  unfold upd at ih⊢
  simp only[List.cons_append,val,ih]
  by_cases e:q.1=a∧q.2.1=i
  ·rw[if_pos e,if_pos e,if_neg (fun r=>by unfold Bef at b;omega)]
  ·rw[if_neg e,if_neg e]
theorem val_take{ps:List T3}(h:Right ps){k:Nat}(hk:k<ps.length):∀a i,val (ps.take (k+1)) a i=upd (val (ps.take k)) (el3 ps k).1 (el3 ps k).2.1 (el3 ps k).2.2 a i:=by
 rw[take_next hk]
 refine val_more _ _ (fun q hq=>?_)
 obtain⟨j,hj,rfl⟩:=mem_getD hq
 have hj':j<k:=by simp at hj;omega
 have:=h.asc k j hj' hk
 simpa[el3,List.getD,hj',show j<ps.length by omega] using this
theorem sTold(x:Int)(b c:Bool)(r:Int)(w:World)(h:(b=true∧Amt x∧r=x∧c=true)∨(¬(b=true∧Amt x)∧r=0∧c=false)):
  Calls Tryz.prog 181 #[.int .i64 x,.bool b] w fun e w'=>e= .returned (.tuple #[.int .i64 r,.bool c])∧w'=w:=by
 obtain⟨d,D⟩:=says_of (Amt x)
 cases b
 ·rcases h with⟨h1,_⟩|⟨_,rfl,rfl⟩
  ·cases h1
  ·go_enter Tryz.func181,Tryz.ntmps181
   go_wp2
   go_ret2
   exact⟨rfl,rfl⟩
 ·cases d
  ·rcases h with⟨_,h1,_⟩|⟨_,rfl,rfl⟩
   ·exact absurd h1 D.no
   ·go_enter Tryz.func181,Tryz.ntmps181
    go_wp2_with fail
    refine(sAmt x false _ D).mono ?_
    rintro e w1 ⟨rfl,rfl⟩
    go_wp2
    go_ret2
    exact⟨rfl,rfl⟩
  ·rcases h with⟨_,h1,rfl,rfl⟩|⟨h1,_⟩
   ·clear h1
    go_enter Tryz.func181,Tryz.ntmps181
    go_wp2_with fail
    refine(sAmt r true _ D).mono ?_
    rintro e w1 ⟨rfl,rfl⟩
    go_wp2
    go_ret2
    exact⟨rfl,rfl⟩
   ·exact absurd ⟨rfl,D.yes⟩ h1
theorem iOnly(x:Int)(c:Bool)(r:Int)(w:World)(h:(Amt x∧r=x∧c=true)∨(¬Amt x∧r=0∧c=false)):
  Calls Tryz.prog 197 #[.int .i64 x] w fun e w'=>e= .returned (.tuple #[.int .i64 r,.bool c])∧w'=w:=by
 obtain⟨d,D⟩:=says_of (Amt x)
 cases d
 ·rcases h with⟨h1,_⟩|⟨_,rfl,rfl⟩
  ·exact absurd h1 D.no
  ·go_enter Tryz.func197,Tryz.ntmps197
   go_wp2_with fail
   refine(iAmt x false _ D).mono ?_
   rintro e w1 ⟨rfl,rfl⟩
   go_wp2
   go_ret2
   exact⟨rfl,rfl⟩
 ·rcases h with⟨h1,rfl,rfl⟩|⟨h1,_⟩
  ·clear h1
   go_enter Tryz.func197,Tryz.ntmps197
   go_wp2_with fail
   refine(iAmt r true _ D).mono ?_
   rintro e w1 ⟨rfl,rfl⟩
   go_wp2
   go_ret2
   exact⟨rfl,rfl⟩
  ·exact absurd D.yes h1
theorem sum_near{ps:List T3}(i:Int)(hl:ps.length≤160)(h:∀j,j<ps.length→Amt (el3 ps j).2.2)(k:Nat)(hk:k≤ps.length): -200000000000000000≤sumI (ps.take k) i∧sumI (ps.take k) i≤200000000000000000:=by
 have:=sumI_bound i h k hk
 omega
theorem sSum(w:World)(g n cap:Nat)(ps:List T3)(i r:Int)(c:Bool)(hl:ps.length=n)(h20:n≤1048576)(hg:g<w.heap.size)(h:At3 w g ps)(hs:IsSum ps i r c):
  Calls Tryz.prog 136 #[.slice (some ⟨g,0,none⟩) n cap,.int .i64 i] w fun e w'=>e= .returned (.tuple #[.int .i64 r,.bool c])∧Below w.heap.size w w':=by
 obtain⟨ok,OK⟩:=says_of (Right ps)
 have H:=zh h
 have HS:=zh hs
 clear h hs
 go_enter Tryz.func136,Tryz.ntmps136
 go_wp2
 go_loopw [6,7] (fun s j wr=>∃(k:Nat),k≤n∧j= .int .i64 k∧s= .int .i64 (sumI (ps.take k) i)∧Below w.heap.size w wr∧(ok=false→k=0)) (fun _ j _=>n-(intOf j).toNat)
 case atStart=>exact⟨0,by omega,rfl,rfl,Below.refl _ _,fun _=>rfl⟩
 case round=>
  obtain⟨k,hk,rfl,rfl,hb,hf⟩:=hrel
  have A:=zh ((zu H).below hb hg)
  have HB:=zh hb
  have sz:=hb.size
  clear hb
  cases ok
  ·obtain rfl:k=0:=hf rfl
   by_cases t:0<n
   ·go_wp2_with fail
    refine(sOk _ g n cap ps false hl h20 (by omega) (zu A) OK).mono ?_
    rintro e w1 ⟨rfl,b1⟩
    have A1:=zh ((zu A).below b1 (by omega))
    have B1:=zh (next (zu HB) b1)
    have s1:=b1.size
    clear b1
    have z0:sumI [] i=0:=rfl
    rw[z0]
    go_wp2_with fail
    refine(sOk _ g n cap ps false hl h20 (by omega) (zu A1) OK).mono ?_
    rintro e w2 ⟨rfl,b2⟩
    have B2:=zh (next (zu B1) b2)
    clear b2
    go_wp2_with fail
    refine(sTold 0 false c r _ (by
     rcases zu HS with⟨h1,_⟩|⟨_,h2,h3⟩
     ·exact absurd h1 OK.no
     ·exact .inr ⟨fun q=>(by have:=q.1;cases this),h2,h3⟩)).mono ?_
    rintro e w3 ⟨rfl,rfl⟩
    go_wp2
    go_ret2
    exact⟨rfl,zu B2⟩
   ·exact absurd (show Right ps from⟨by omega,fun i hi=>by omega⟩) OK.no
  ·have RB:=zh (fun k hk=>sum_near (ps:=ps) i OK.yes.1 (fun j hj=>(OK.yes.2 j hj).2.2.1) k hk)
   by_cases t:k<n
   ·go_wp2_with fail
    refine(sOk _ g n cap ps true hl h20 (by omega) (zu A) OK).mono ?_
    rintro e w1 ⟨rfl,b1⟩
    obtain⟨e1,e2,e3⟩:=((zu A).below b1 (by omega)) k (by omega)
    have B1:=zh (next (zu HB) b1)
    clear b1
    have SN:=zh (sumI_next (ps:=ps) (k:=k) (by omega) i)
    have R1:=zh ((zu RB) (k+1) (by omega))
    rw[zu SN] at R1
    generalize (el3 ps k).1=x at *
    generalize (el3 ps k).2.1=y at *
    generalize (el3 ps k).2.2=z at *
    generalize sumI (ps.take k) i=S at *
    by_cases c1:y=i
    ·rw[if_pos c1] at SN R1
     have R2:=zu R1
     have wr1:IntKind.i64.wrap (S+z)=S+z:=by rw[IntKind.wrap_i64];omega
     clear R2
     subst c1
     go_wp2
     go_roundw
     case rel=>exact⟨k+1,by omega,by go_num,by rw[zu SN],zu B1,fun q=>by cases q⟩
     case measure=>simp[intOf];omega
    ·rw[if_neg c1] at SN R1
     have c1b:(y==i)=false:=by simpa using c1
     have SN:=zh ((zu SN).trans (Int.add_zero S))
     go_wp2
     go_roundw
     case rel=>exact⟨k+1,by omega,by go_num,by rw[zu SN],zu B1,fun q=>by cases q⟩
     case measure=>simp[intOf];omega
   ·obtain rfl:k=n:=by omega
    have e0:sumI (ps.take k) i=sumI ps i:=by rw[List.take_of_length_le (by omega)]
    rw[e0]
    clear e0
    go_wp2_with fail
    refine(sOk _ g k cap ps true hl h20 (by omega) (zu A) OK).mono ?_
    rintro e w2 ⟨rfl,b2⟩
    have B2:=zh (next (zu HB) b2)
    clear b2
    go_wp2_with fail
    refine(sTold (sumI ps i) true c r _ (by
     rcases zu HS with⟨h1,h2,h3,h4⟩|⟨h1,h2,h3⟩
     ·exact .inl ⟨rfl,h2,h3,h4⟩
     ·exact .inr ⟨fun q=>h1 ⟨OK.yes,q.2⟩,h2,h3⟩)).mono ?_
    rintro e w3 ⟨rfl,rfl⟩
    go_wp2
    go_ret2
    exact⟨rfl,zu B2⟩
theorem iSum(w:World)(g n cap:Nat)(ps:List T3)(i r:Int)(c:Bool)(hl:ps.length=n)(h20:n≤1048576)(hg:g<w.heap.size)(h:At3 w g ps)(hs:IsSum ps i r c):
  Calls Tryz.prog 155 #[.slice (some ⟨g,0,none⟩) n cap,.int .i64 i] w fun e w'=>e= .returned (.tuple #[.int .i64 r,.bool c])∧Below w.heap.size w w':=by
 obtain⟨ok,OK⟩:=says_of (Right ps)
 have H:=zh h
 have HS:=zh hs
 clear h hs
 go_enter Tryz.func155,Tryz.ntmps155
 go_wp2_with fail
 refine(iOk _ g n cap ps ok hl h20 hg (zu H) OK).mono ?_
 rintro e w1 ⟨rfl,b1⟩
 have B1:=zh b1
 clear b1
 cases ok
 ·obtain⟨rfl,rfl⟩:r=0∧c=false:=by
   rcases zu HS with⟨h1,_⟩|⟨_,h2,h3⟩
   ·exact absurd h1 OK.no
   ·exact⟨h2,h3⟩
  go_wp2
  go_ret2
  exact⟨rfl,zu B1⟩
 have RB:=zh (fun k hk=>sum_near (ps:=ps) i OK.yes.1 (fun j hj=>(OK.yes.2 j hj).2.2.1) k hk)
 go_wp2
 go_loopw [6,8,14] (fun s _ j wr=>∃(k:Nat),k≤n∧j= .int .i64 k∧s= .int .i64 (sumI (ps.take k) i)∧Below w.heap.size w wr) (fun _ _ j _=>n-(intOf j).toNat)
 case atStart=>exact⟨0,by omega,rfl,rfl,zu B1⟩
 case round=>
  obtain⟨k,hk,rfl,rfl,hb⟩:=hrel
  have A:=zh ((zu H).below hb hg)
  have HB:=zh hb
  clear hb
  by_cases t:k<n
  ·obtain⟨e1,e2,e3⟩:=(zu A) k (by omega)
   have SN:=zh (sumI_next (ps:=ps) (k:=k) (by omega) i)
   have R1:=zh ((zu RB) (k+1) (by omega))
   rw[zu SN] at R1
   generalize (el3 ps k).1=x at *
   generalize (el3 ps k).2.1=y at *
   generalize (el3 ps k).2.2=z at *
   generalize sumI (ps.take k) i=S at *
   have NB:=zh ((zu HB).alloc (zu HB).size (.cells #[.int .i64 x,.int .i64 y,.int .i64 z] 111))
   by_cases c1:y=i
   ·rw[if_pos c1] at SN R1
    have R2:=zu R1
    have wr1:IntKind.i64.wrap (S+z)=S+z:=by rw[IntKind.wrap_i64];omega
    clear R2
    subst c1
    go_wp2
    go_roundw
    case rel=>exact⟨k+1,by omega,by go_num,by rw[zu SN],zu NB⟩
    case measure=>simp[intOf];omega
   ·rw[if_neg c1] at SN R1
    have c1b:(y==i)=false:=by simpa using c1
    have SN:=zh ((zu SN).trans (Int.add_zero S))
    go_wp2
    go_roundw
    case rel=>exact⟨k+1,by omega,by go_num,by rw[zu SN],zu NB⟩
    case measure=>simp[intOf];omega
  ·obtain rfl:k=n:=by omega
   have e0:sumI (ps.take k) i=sumI ps i:=by rw[List.take_of_length_le (by omega)]
   rw[e0]
   clear e0
   go_wp2_with fail
   refine(iOnly (sumI ps i) c r _ (by
    rcases zu HS with⟨h1,h2,h3,h4⟩|⟨h1,h2,h3⟩
    ·exact .inl ⟨h2,h3,h4⟩
    ·exact .inr ⟨fun q=>h1 ⟨OK.yes,q⟩,h2,h3⟩)).mono ?_
   rintro e w3 ⟨rfl,rfl⟩
   go_wp2
   go_ret2
   exact⟨rfl,zu HB⟩
theorem sum_is(ps:List T3)(i:Int):∃r c,IsSum ps i r c:=by
 by_cases h:Right ps∧Amt (sumI ps i)
 ·exact⟨_,_,.inl ⟨h.1,h.2,rfl,rfl⟩⟩
 ·exact⟨_,_,.inr ⟨h,rfl,rfl⟩⟩
end Look
end Go.Proofs.YtlbgfdpcgpijhaaGreat
