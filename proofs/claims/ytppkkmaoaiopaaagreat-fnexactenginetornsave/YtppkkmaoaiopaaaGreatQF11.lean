/- Lemmas. -/
import Derived.Test.YtppkkmaoaiopaaaGreatQF8
import Derived.Test.YtppkkmaoaiopaaaGreatQF9
import Derived.Test.YtppkkmaoaiopaaaGreatQF10
open Go.ChangeShapes Go.WideShapes Go.ChangeAt Go.RowKit
set_option linter.unusedVariables false
set_option linter.unusedSimpArgs false
set_option maxRecDepth 100000
set_option maxHeartbeats 32000000
namespace Go.Proofs.YtppkkmaoaiopaaaGreat
namespace Look
open Bals Triples Cmp SOk3 IOk3 Tab
theorem drop_next{ps:List T3}{k:Nat}(h:k<ps.length):ps.drop k=el3 ps k::ps.drop (k+1):=by
 rw[List.drop_eq_getElem_cons h]
 simp[el3,List.getD,h]
theorem val_hit{ps:List T3}{k:Nat}{a i:Int}(h:k<ps.length)(e:(el3 ps k).1=a∧(el3 ps k).2.1=i):val (ps.drop k) a i=(el3 ps k).2.2:=by
 rw[drop_next h]
 unfold val
 rw[if_pos e]
theorem val_miss{ps:List T3}{k:Nat}{a i:Int}(h:k<ps.length)(e:¬((el3 ps k).1=a∧(el3 ps k).2.1=i)):val (ps.drop k) a i=val (ps.drop (k+1)) a i:=by
 rw[drop_next h,val,if_neg e]
theorem sOf(w:World)(g n cap:Nat)(ps:List T3)(a i:Int)(hl:ps.length=n)(h20:n≤1048576)(h:At3 w g ps):
  Calls Tryz.prog 133 #[.slice (some ⟨g,0,none⟩) n cap,.int .i64 a,.int .i64 i] w fun e w'=>e= .returned (.int .i64 (val ps a i))∧w'=w:=by
 go_enter Tryz.func133,Tryz.ntmps133
 go_wp2
 go_loop [7] (fun j=>∃(k:Nat),k≤n∧j= .int .i64 k∧Hid (val ps a i=val (ps.drop k) a i)) (fun j=>n-(intOf j).toNat)
 case atStart=>exact⟨0,by omega,rfl,zh rfl⟩
 case round=>
  obtain⟨k,hk,rfl,HV⟩:=hrel
  by_cases t:k<n
  ·obtain⟨e1,e2,e3⟩:=h k (by omega)
   have HIT:=zh (val_hit (ps:=ps) (k:=k) (a:=a) (i:=i) (by omega))
   have MISS:=zh (val_miss (ps:=ps) (k:=k) (a:=a) (i:=i) (by omega))
   clear h
   generalize (el3 ps k).1=x at *
   generalize (el3 ps k).2.1=y at *
   generalize (el3 ps k).2.2=z at *
   by_cases c1:x=a
   ·by_cases c2:y=i
    ·have V:=zh ((zu HV).trans ((zu HIT) ⟨c1,c2⟩))
     clear HIT MISS HV
     subst c1 c2
     go_wp2
     go_ret
     exact⟨by rw[zu V];rfl,rfl⟩
    ·have V:=zh ((zu HV).trans ((zu MISS) (fun r=>c2 r.2)))
     clear HIT MISS HV
     have c2b:(y==i)=false:=by simpa using c2
     subst c1
     go_wp2
     go_round
     case rel=>exact⟨k+1,by omega,by go_num,V⟩
     case measure=>simp[intOf];omega
   ·have V:=zh ((zu HV).trans ((zu MISS) (fun r=>c1 r.1)))
    clear HIT MISS HV
    have c1b:(x==a)=false:=by simpa using c1
    go_wp2
    go_round
    case rel=>exact⟨k+1,by omega,by go_num,V⟩
    case measure=>simp[intOf];omega
  ·obtain rfl:k=n:=by omega
   have V:=zh ((zu HV).trans (show val (ps.drop k) a i=0 by rw[List.drop_of_length_le (by omega)];rfl))
   clear HV h
   go_wp2
   go_ret
   exact⟨by rw[zu V];rfl,rfl⟩
theorem val_more(p:T3):∀(l:List T3),(∀q∈l,Bef q p)→∀a i,val (l++[p]) a i=upd (val l) p.1 p.2.1 p.2.2 a i
 |[],_,a,i=>by
  unfold upd
  simp only[List.nil_append,val]
  by_cases e:p.1=a∧p.2.1=i
  ·rw[if_pos e,if_pos ⟨e.1.symm,e.2.symm⟩]
  ·rw[if_neg e,if_neg (fun r=>e ⟨r.1.symm,r.2.symm⟩)]
 |q::r,h,a,i=>by
  have ih:=val_more p r (fun x hx=>h x (List.mem_cons_of_mem _ hx)) a i
  have b:=h q List.mem_cons_self
  unfold upd at ih⊢
  simp only[List.cons_append,val,ih]
  by_cases e:q.1=a∧q.2.1=i
  ·rw[if_pos e,if_pos e,if_neg (fun r=>by unfold Bef at b;omega)]
  ·rw[if_neg e,if_neg e]
theorem val_take{ps:List T3}(h:Right ps){k:Nat}(hk:k<ps.length):∀a i,val (ps.take (k+1)) a i=upd (val (ps.take k)) (el3 ps k).1 (el3 ps k).2.1 (el3 ps k).2.2 a i:=by
 rw[take_next hk]
 refine val_more _ _ (fun q hq=>?_)
 obtain⟨j,hj,rfl⟩:=mem_getD hq
 have hj':j<k:=by simp at hj;omega
 have:=h.asc k j hj' hk
 simpa[el3,List.getD,hj',show j<ps.length by omega] using this
theorem sTold(x:Int)(b c:Bool)(r:Int)(w:World)(h:(b=true∧Amt x∧r=x∧c=true)∨(¬(b=true∧Amt x)∧r=0∧c=false)):
  Calls Tryz.prog 154 #[.int .i64 x,.bool b] w fun e w'=>e= .returned (.tuple #[.int .i64 r,.bool c])∧w'=w:=by
 obtain⟨d,D⟩:=says_of (Amt x)
 cases b
 ·rcases h with⟨h1,_⟩|⟨_,rfl,rfl⟩
  ·cases h1
  ·go_enter Tryz.func154,Tryz.ntmps154
   go_wp2
   go_ret2
   exact⟨rfl,rfl⟩
 ·cases d
  ·rcases h with⟨_,h1,_⟩|⟨_,rfl,rfl⟩
   ·exact absurd h1 D.no
   ·go_enter Tryz.func154,Tryz.ntmps154
    go_wp2_with fail
    refine(sAmt x false _ D).mono ?_
    rintro e w1 ⟨rfl,rfl⟩
    go_wp2
    go_ret2
    exact⟨rfl,rfl⟩
  ·rcases h with⟨_,h1,rfl,rfl⟩|⟨h1,_⟩
   ·clear h1
    go_enter Tryz.func154,Tryz.ntmps154
    go_wp2_with fail
    refine(sAmt r true _ D).mono ?_
    rintro e w1 ⟨rfl,rfl⟩
    go_wp2
    go_ret2
    exact⟨rfl,rfl⟩
   ·exact absurd ⟨rfl,D.yes⟩ h1
theorem iOnly(x:Int)(c:Bool)(r:Int)(w:World)(h:(Amt x∧r=x∧c=true)∨(¬Amt x∧r=0∧c=false)):
  Calls Tryz.prog 223 #[.int .i64 x] w fun e w'=>e= .returned (.tuple #[.int .i64 r,.bool c])∧w'=w:=by
 obtain⟨d,D⟩:=says_of (Amt x)
 cases d
 ·rcases h with⟨h1,_⟩|⟨_,rfl,rfl⟩
  ·exact absurd h1 D.no
  ·go_enter Tryz.func223,Tryz.ntmps223
   go_wp2_with fail
   refine(iAmt x false _ D).mono ?_
   rintro e w1 ⟨rfl,rfl⟩
   go_wp2
   go_ret2
   exact⟨rfl,rfl⟩
 ·rcases h with⟨h1,rfl,rfl⟩|⟨h1,_⟩
  ·clear h1
   go_enter Tryz.func223,Tryz.ntmps223
   go_wp2_with fail
   refine(iAmt r true _ D).mono ?_
   rintro e w1 ⟨rfl,rfl⟩
   go_wp2
   go_ret2
   exact⟨rfl,rfl⟩
  ·exact absurd D.yes h1
theorem sum_near{ps:List T3}(i:Int)(hl:ps.length≤160)(h:∀j,j<ps.length→Amt (el3 ps j).2.2)(k:Nat)(hk:k≤ps.length): -200000000000000000≤sumI (ps.take k) i∧sumI (ps.take k) i≤200000000000000000:=by
 have:=sumI_bound i h k hk
 omega
theorem sSum(w:World)(g n cap:Nat)(ps:List T3)(i r:Int)(c:Bool)(hl:ps.length=n)(h20:n≤1048576)(hg:g<w.heap.size)(h:At3 w g ps)(hs:IsSum ps i r c):
  Calls Tryz.prog 130 #[.slice (some ⟨g,0,none⟩) n cap,.int .i64 i] w fun e w'=>e= .returned (.tuple #[.int .i64 r,.bool c])∧Below w.heap.size w w':=by
 obtain⟨ok,OK⟩:=says_of (Right ps)
 have H:=zh h
 have HS:=zh hs
 clear h hs
 go_enter Tryz.func130,Tryz.ntmps130
 go_wp2
 go_loopw [6,7] (fun s j wr=>∃(k:Nat),k≤n∧j= .int .i64 k∧s= .int .i64 (sumI (ps.take k) i)∧Below w.heap.size w wr∧(ok=false→k=0)) (fun _ j _=>n-(intOf j).toNat)
 case atStart=>exact⟨0,by omega,rfl,rfl,Below.refl _ _,fun _=>rfl⟩
 case round=>
  obtain⟨k,hk,rfl,rfl,hb,hf⟩:=hrel
  have A:=zh ((zu H).below hb hg)
  have HB:=zh hb
  have sz:=hb.size
  clear hb
  cases ok
  ·obtain rfl:k=0:=hf rfl
   by_cases t:0<n
   ·go_wp2_with fail
    refine(sOk _ g n cap ps false hl h20 (by omega) (zu A) OK).mono ?_
    rintro e w1 ⟨rfl,b1⟩
    have A1:=zh ((zu A).below b1 (by omega))
    have B1:=zh (next (zu HB) b1)
    have s1:=b1.size
    clear b1
    have z0:sumI [] i=0:=rfl
    rw[z0]
    go_wp2_with fail
    refine(sOk _ g n cap ps false hl h20 (by omega) (zu A1) OK).mono ?_
    rintro e w2 ⟨rfl,b2⟩
    have B2:=zh (next (zu B1) b2)
    clear b2
    go_wp2_with fail
    refine(sTold 0 false c r _ (by
     rcases zu HS with⟨h1,_⟩|⟨_,h2,h3⟩
     ·exact absurd h1 OK.no
     ·exact .inr ⟨fun q=>(by have:=q.1;cases this),h2,h3⟩)).mono ?_
    rintro e w3 ⟨rfl,rfl⟩
    go_wp2
    go_ret2
    exact⟨rfl,zu B2⟩
   ·exact absurd (show Right ps from⟨by omega,fun i hi=>by omega⟩) OK.no
  ·have RB:=zh (fun k hk=>sum_near (ps:=ps) i OK.yes.1 (fun j hj=>(OK.yes.2 j hj).2.2.1) k hk)
   by_cases t:k<n
   ·go_wp2_with fail
    refine(sOk _ g n cap ps true hl h20 (by omega) (zu A) OK).mono ?_
    rintro e w1 ⟨rfl,b1⟩
    obtain⟨e1,e2,e3⟩:=((zu A).below b1 (by omega)) k (by omega)
    have B1:=zh (next (zu HB) b1)
    clear b1
    have SN:=zh (sumI_next (ps:=ps) (k:=k) (by omega) i)
    have R1:=zh ((zu RB) (k+1) (by omega))
    rw[zu SN] at R1
    generalize (el3 ps k).1=x at *
    generalize (el3 ps k).2.1=y at *
    generalize (el3 ps k).2.2=z at *
    generalize sumI (ps.take k) i=S at *
    by_cases c1:y=i
    ·rw[if_pos c1] at SN R1
     have R2:=zu R1
     have wr1:IntKind.i64.wrap (S+z)=S+z:=by rw[IntKind.wrap_i64];omega
     clear R2
     subst c1
     go_wp2
     go_roundw
     case rel=>exact⟨k+1,by omega,by go_num,by rw[zu SN],zu B1,fun q=>by cases q⟩
     case measure=>simp[intOf];omega
    ·rw[if_neg c1] at SN R1
     have c1b:(y==i)=false:=by simpa using c1
     have SN:=zh ((zu SN).trans (Int.add_zero S))
     go_wp2
     go_roundw
     case rel=>exact⟨k+1,by omega,by go_num,by rw[zu SN],zu B1,fun q=>by cases q⟩
     case measure=>simp[intOf];omega
   ·obtain rfl:k=n:=by omega
    have e0:sumI (ps.take k) i=sumI ps i:=by rw[List.take_of_length_le (by omega)]
    rw[e0]
    clear e0
    go_wp2_with fail
    refine(sOk _ g k cap ps true hl h20 (by omega) (zu A) OK).mono ?_
    rintro e w2 ⟨rfl,b2⟩
    have B2:=zh (next (zu HB) b2)
    clear b2
    go_wp2_with fail
    refine(sTold (sumI ps i) true c r _ (by
     rcases zu HS with⟨h1,h2,h3,h4⟩|⟨h1,h2,h3⟩
     ·exact .inl ⟨rfl,h2,h3,h4⟩
     ·exact .inr ⟨fun q=>h1 ⟨OK.yes,q.2⟩,h2,h3⟩)).mono ?_
    rintro e w3 ⟨rfl,rfl⟩
    go_wp2
    go_ret2
    exact⟨rfl,zu B2⟩
theorem iSum(w:World)(g n cap:Nat)(ps:List T3)(i r:Int)(c:Bool)(hl:ps.length=n)(h20:n≤1048576)(hg:g<w.heap.size)(h:At3 w g ps)(hs:IsSum ps i r c):
  Calls Tryz.prog 186 #[.slice (some ⟨g,0,none⟩) n cap,.int .i64 i] w fun e w'=>e= .returned (.tuple #[.int .i64 r,.bool c])∧Below w.heap.size w w':=by
 obtain⟨ok,OK⟩:=says_of (Right ps)
 have H:=zh h
 have HS:=zh hs
 clear h hs
 go_enter Tryz.func186,Tryz.ntmps186
 go_wp2_with fail
 refine(iOk _ g n cap ps ok hl h20 hg (zu H) OK).mono ?_
 rintro e w1 ⟨rfl,b1⟩
 have B1:=zh b1
 clear b1
 cases ok
 ·obtain⟨rfl,rfl⟩:r=0∧c=false:=by
   rcases zu HS with⟨h1,_⟩|⟨_,h2,h3⟩
   ·exact absurd h1 OK.no
   ·exact⟨h2,h3⟩
  go_wp2
  go_ret2
  exact⟨rfl,zu B1⟩
 have RB:=zh (fun k hk=>sum_near (ps:=ps) i OK.yes.1 (fun j hj=>(OK.yes.2 j hj).2.2.1) k hk)
 go_wp2
 go_loopw [6,8,14] (fun s _ j wr=>∃(k:Nat),k≤n∧j= .int .i64 k∧s= .int .i64 (sumI (ps.take k) i)∧Below w.heap.size w wr) (fun _ _ j _=>n-(intOf j).toNat)
 case atStart=>exact⟨0,by omega,rfl,rfl,zu B1⟩
 case round=>
  obtain⟨k,hk,rfl,rfl,hb⟩:=hrel
  have A:=zh ((zu H).below hb hg)
  have HB:=zh hb
  clear hb
  by_cases t:k<n
  ·obtain⟨e1,e2,e3⟩:=(zu A) k (by omega)
   have SN:=zh (sumI_next (ps:=ps) (k:=k) (by omega) i)
   have R1:=zh ((zu RB) (k+1) (by omega))
   rw[zu SN] at R1
   generalize (el3 ps k).1=x at *
   generalize (el3 ps k).2.1=y at *
   generalize (el3 ps k).2.2=z at *
   generalize sumI (ps.take k) i=S at *
   have NB:=zh ((zu HB).alloc (zu HB).size (.cells #[.int .i64 x,.int .i64 y,.int .i64 z] 132))
   by_cases c1:y=i
   ·rw[if_pos c1] at SN R1
    have R2:=zu R1
    have wr1:IntKind.i64.wrap (S+z)=S+z:=by rw[IntKind.wrap_i64];omega
    clear R2
    subst c1
    go_wp2
    go_roundw
    case rel=>exact⟨k+1,by omega,by go_num,by rw[zu SN],zu NB⟩
    case measure=>simp[intOf];omega
   ·rw[if_neg c1] at SN R1
    have c1b:(y==i)=false:=by simpa using c1
    have SN:=zh ((zu SN).trans (Int.add_zero S))
    go_wp2
    go_roundw
    case rel=>exact⟨k+1,by omega,by go_num,by rw[zu SN],zu NB⟩
    case measure=>simp[intOf];omega
  ·obtain rfl:k=n:=by omega
   have e0:sumI (ps.take k) i=sumI ps i:=by rw[List.take_of_length_le (by omega)]
   rw[e0]
   clear e0
   go_wp2_with fail
   refine(iOnly (sumI ps i) c r _ (by
    rcases zu HS with⟨h1,h2,h3,h4⟩|⟨h1,h2,h3⟩
    ·exact .inl ⟨h2,h3,h4⟩
    ·exact .inr ⟨fun q=>h1 ⟨OK.yes,q⟩,h2,h3⟩)).mono ?_
   rintro e w3 ⟨rfl,rfl⟩
   go_wp2
   go_ret2
   exact⟨rfl,zu HB⟩
theorem sum_is(ps:List T3)(i:Int):∃r c,IsSum ps i r c:=by
 by_cases h:Right ps∧Amt (sumI ps i)
 ·exact⟨_,_,.inl ⟨h.1,h.2,rfl,rfl⟩⟩
 ·exact⟨_,_,.inr ⟨h,rfl,rfl⟩⟩
end Look
namespace IBalsFit
open BMem Bks IRead IHave ITrade ILists
open Lots (Says says_of NoOk)
open Bals (T3 el3 val sumI)
open Triples (At3 Holds3)
theorem all_one{p:Int→Prop}{y:Int}{b:Bool}(h:Says b (p y)):Says b (∀z∈[y],p z):=by
 constructor
 ·intro e z hz
  simp at hz
  subst hz
  exact h.1 e
 ·intro e
  exact h.2 (e y (by simp))
structure St(w W:World)(x:Bx):Prop where
 r:Rd W x
 c:Cl W w.heap.size x
 b:Below w.heap.size w W
 s:w.heap.size<W.heap.size
theorem St.step{w W W':World}{x:Bx}(h:St w W x)(k:Below W.heap.size W W'):St w W' x:=
 ⟨h.r.below k,h.c.below k h.s,h.b.trans (k.mono (Nat.le_of_lt h.s)),Nat.lt_of_lt_of_le h.s k.size⟩
theorem St.start{w:World}{x:Bx}(h:Rd w x)(e:TypeId):St w (w.alloc (.cells #[.slice (some ⟨x.ga,0,none⟩) x.b.ac.length x.ca,.slice (some ⟨x.gi,0,none⟩) x.b.ic.length x.ci,.slice (some ⟨x.gb,0,none⟩) x.b.bs.length x.cb,.slice (some ⟨x.gl,0,none⟩) x.b.ls.length x.cl,.slice (some ⟨x.gt,0,none⟩) x.b.ts.length x.ct,.int .i64 x.b.lot] e)) x:=
 ⟨h.alloc _,boxed w x e,(Below.refl w.heap.size w).alloc (Nat.le_refl _) _,by simp⟩
theorem one_more(w:World)(o:Obj):Below w.heap.size w (w.alloc o):=(Below.refl _ _).alloc (Nat.le_refl _) _
theorem iBalsFit(w:World)(x:Bx)(b:Bool)(h:Rd w x)(hl:Lists x.b)(hb:Says b (BalsFit x.b)):
  Calls Tryz.prog 163 #[.agg #[.slice (some ⟨x.ga,0,none⟩) x.b.ac.length x.ca,.slice (some ⟨x.gi,0,none⟩) x.b.ic.length x.ci,.slice (some ⟨x.gb,0,none⟩) x.b.bs.length x.cb,.slice (some ⟨x.gl,0,none⟩) x.b.ls.length x.cl,.slice (some ⟨x.gt,0,none⟩) x.b.ts.length x.ct,.int .i64 x.b.lot]] w fun e w'=>e= .returned (.bool b)∧Below w.heap.size w w':=by
 have T:=zh hb
 have L:=zh hl
 have S0:=zh (St.start h 44)
 have nb:=h.nb
 have ni:=h.ni
 have G0:=zh h.lb
 have G1:=zh h.li
 have A0:=zh h.rb
 have A1:=zh h.ri
 clear hb hl h
 go_enter Tryz.func163,Tryz.ntmps163
 go_wp2
 go_loopw [12] (fun i wr=>∃(k:Nat),k≤x.b.bs.length∧i= .int .i64 k∧St w wr x∧Hid (∀j,j<k→BalFit x.b (el3 x.b.bs j))) (fun i _=>x.b.bs.length-(intOf i).toNat)
 case atStart=>exact⟨0,by omega,rfl,zu S0,zh (fun i hi=>absurd hi (by omega))⟩
 case round=>
  obtain⟨k,hk,rfl,hS,HG⟩:=hrel
  clear S0
  by_cases t:k<x.b.bs.length
  ·obtain⟨d0,d1,d2⟩:=(hS.r.rb k t)
   obtain⟨c0,c1,c2,c3,c4,c5⟩:=hS.c
   have BAD:=zh (show ¬BalFit x.b (el3 x.b.bs k)→b=false from fun hr=>(zu T).not (fun r=>hr (r.1 k t)))
   have GOOD:=zh (show BalFit x.b (el3 x.b.bs k)→∀i,i<k+1→BalFit x.b (el3 x.b.bs i) from fun hr i hi=>by
    by_cases e:i=k
    ·subst e;exact hr
    ·exact(zu HG) i (by omega))
   have FIT:=zh (show BalFit x.b (el3 x.b.bs k)↔kindOf x.b.ac (el3 x.b.bs k).1≠0∧kindOf x.b.ic (el3 x.b.bs k).2.1≠0∧¬(kindOf x.b.ac (el3 x.b.bs k).1=1∧(el3 x.b.bs k).2.2<0) from Iff.rfl)
   have wz:=hS.s
   have S1:=zh (hS.step (one_more wr (.cells #[.int .i64 (el3 x.b.bs k).1,.int .i64 (el3 x.b.bs k).2.1,.int .i64 (el3 x.b.bs k).2.2] 132)))
   clear hS
   generalize (el3 x.b.bs k).1=y0 at *
   generalize (el3 x.b.bs k).2.1=y1 at *
   generalize (el3 x.b.bs k).2.2=y2 at *
   obtain⟨b0,h0⟩:=says_of (kindOf x.b.ac y0≠0)
   obtain⟨b1,h1⟩:=says_of (kindOf x.b.ic y1≠0)
   obtain⟨b2,h2⟩:=says_of (kindOf x.b.ac y0=1)
   have H0:=zh h0
   have H1:=zh h1
   have H2:=zh h2
   clear h0 h1 h2
   go_wp2_with fail
   have S2:=zh ((zu S1).step (one_more _ (.cells #[.int .i64 y0] 3)))
   refine(iHaveAccounts _ x (wr.heap.size+1) 1 1 [y0] b0 (zu S2).r (zu L).1 rfl (by omega) (by simp) (at_new _ [y0] _ (by simp) rfl) (all_one (zu H0))).mono ?_
   rintro e w1 ⟨rfl,bb⟩
   have S3:=zh ((zu S2).step bb)
   have f0:w1.cell? ⟨wr.heap.size,0,none⟩=some (.int .i64 y0):=(bb.cell (p:=⟨wr.heap.size,0,none⟩) (by simp;omega)).trans (by simp)
   have f1:w1.cell? ⟨wr.heap.size,1,none⟩=some (.int .i64 y1):=(bb.cell (p:=⟨wr.heap.size,1,none⟩) (by simp;omega)).trans (by simp)
   have f2:w1.cell? ⟨wr.heap.size,2,none⟩=some (.int .i64 y2):=(bb.cell (p:=⟨wr.heap.size,2,none⟩) (by simp;omega)).trans (by simp)
   have z1:wr.heap.size<w1.heap.size:=by have:=bb.size;simp at this;omega
   clear bb c0 c1 c2 c3 c4 c5 d0 d1 d2
   obtain⟨c0,c1,c2,c3,c4,c5⟩:=(zu S3).c
   cases b0
   ·have F:=zh ((zu BAD) (fun hh=>(zu H0).no ((zu FIT).1 hh).1))
    clear BAD GOOD FIT T
    go_wp2
    go_ret
    exact⟨by rw[zu F];rfl,(zu S3).b⟩
   go_wp2_with fail
   have S4:=zh ((zu S3).step (one_more _ (.cells #[.int .i64 y1] 3)))
   refine(iHaveInstrs _ x w1.heap.size 1 1 [y1] b1 (zu S4).r (zu L).2.1 rfl (by omega) (by simp) (at_new _ [y1] _ rfl rfl) (all_one (zu H1))).mono ?_
   rintro e w2 ⟨rfl,bb⟩
   have S5:=zh ((zu S4).step bb)
   have g0:w2.cell? ⟨wr.heap.size,0,none⟩=some (.int .i64 y0):=(bb.cell (p:=⟨wr.heap.size,0,none⟩) (by simp;omega)).trans ((World.cell?_alloc_past _ _ _ z1).trans f0)
   have g2:w2.cell? ⟨wr.heap.size,2,none⟩=some (.int .i64 y2):=(bb.cell (p:=⟨wr.heap.size,2,none⟩) (by simp;omega)).trans ((World.cell?_alloc_past _ _ _ z1).trans f2)
   clear bb c0 c1 c2 c3 c4 c5 f0 f1 f2
   obtain⟨c0,c1,c2,c3,c4,c5⟩:=(zu S5).c
   cases b1
   ·have F:=zh ((zu BAD) (fun hh=>(zu H1).no ((zu FIT).1 hh).2.1))
    clear BAD GOOD FIT T
    go_wp2
    go_ret
    exact⟨by rw[zu F];rfl,(zu S5).b⟩
   by_cases q:y2<0
   ·go_wp2_with fail
    refine(iHolder _ x y0 b2 (zu S5).r (zu L).1 (zu H2)).mono ?_
    rintro e w3 ⟨rfl,bb⟩
    have S6:=zh ((zu S5).step bb)
    clear bb c0 c1 c2 c3 c4 c5
    cases b2
    ·have G:=zh ((zu GOOD) ((zu FIT).2 ⟨(zu H0).yes,(zu H1).yes,fun r=>(zu H2).no r.1⟩))
     clear BAD GOOD FIT
     go_wp2
     go_roundw
     case rel=>exact⟨k+1,by omega,by go_num,zu S6,G⟩
     case measure=>simp[intOf];omega
    ·have F:=zh ((zu BAD) (fun hh=>((zu FIT).1 hh).2.2 ⟨(zu H2).yes,q⟩))
     clear BAD GOOD FIT T
     go_wp2
     go_ret
     exact⟨by rw[zu F];rfl,(zu S6).b⟩
   ·have G:=zh ((zu GOOD) ((zu FIT).2 ⟨(zu H0).yes,(zu H1).yes,fun r=>q r.2⟩))
    have hq:decide (y2<0)=false:=decide_eq_false q
    clear BAD GOOD FIT q
    go_wp2
    go_roundw
    case rel=>exact⟨k+1,by omega,by go_num,zu S5,G⟩
    case measure=>simp[intOf];omega
  ·have ALL:=zh (show ∀k,k<x.b.bs.length→BalFit x.b (el3 x.b.bs k) from fun j hj=>(zu HG) j (by omega))
   obtain⟨c0,c1,c2,c3,c4,c5⟩:=hS.c
   have S1:=zh hS
   clear hS HG
   go_wp2
   go_loopw [43] (fun i wr=>∃(k:Nat),k≤x.b.ic.length∧i= .int .i64 k∧St w wr x∧Hid (∀j,j<k→sumI x.b.bs (Chart.el x.b.ic j).1=0)) (fun i _=>x.b.ic.length-(intOf i).toNat)
   case atStart=>exact⟨0,by omega,rfl,zu S1,zh (fun i hi=>absurd hi (by omega))⟩
   case round=>
    clear c0 c1 c2 c3 c4 c5 S1 hk t
    obtain⟨k,hk,rfl,hS,HG⟩:=hrel
    by_cases t:k<x.b.ic.length
    ·obtain⟨d0,d1⟩:=(hS.r.ri k t)
     have c2:=hS.c.c2
     have S1:=zh (hS.step (one_more _ (.cells #[.int .i64 (Chart.el x.b.ic k).1,.int .i64 (Chart.el x.b.ic k).2] 130)))
     have wz:=hS.s
     clear hS
     have BAD:=zh (show sumI x.b.bs (Chart.el x.b.ic k).1≠0→b=false from fun hr=>(zu T).not (fun r=>hr (r.2 _)))
     have GOOD:=zh (show sumI x.b.bs (Chart.el x.b.ic k).1=0→∀i,i<k+1→sumI x.b.bs (Chart.el x.b.ic i).1=0 from fun hr i hi=>by
      by_cases e:i=k
      ·subst e;exact hr
      ·exact(zu HG) i (by omega))
     generalize (Chart.el x.b.ic k).1=y0 at *
     generalize (Chart.el x.b.ic k).2=y1 at *
     obtain⟨r,c,hs⟩:=Look.sum_is x.b.bs y0
     have Z:=zh (sum_zero (zu L).2.2.1 hs)
     have HS:=zh hs
     clear hs
     go_wp2_with fail
     refine(Look.iSum _ x.gb _ x.cb x.b.bs y0 r c rfl nb (zu S1).r.lb (zu S1).r.rb (zu HS)).mono ?_
     rintro e w1 ⟨rfl,bb⟩
     have S2:=zh ((zu S1).step bb)
     clear bb c2 d0 d1
     cases c
     ·have F:=zh ((zu BAD) (fun e=>by have:=(zu Z).2 e;cases this.1))
      clear BAD GOOD T
      go_wp2
      go_ret
      exact⟨by rw[zu F];rfl,(zu S2).b⟩
     by_cases q:r=0
     ·have G:=zh ((zu GOOD) ((zu Z).1 ⟨rfl,q⟩))
      have hq:(r !=0)=false:=by simp[q]
      clear BAD GOOD q
      go_wp2
      go_roundw
      case rel=>exact⟨k+1,by omega,by go_num,zu S2,G⟩
      case measure=>simp[intOf];omega
     ·have F:=zh ((zu BAD) (fun e=>q ((zu Z).2 e).2))
      have hq:(r !=0)=true:=by simp[q]
      clear BAD GOOD T q
      go_wp2
      go_ret
      exact⟨by rw[zu F];rfl,(zu S2).b⟩
    ·have F:=zh ((zu T).of (bals_impl (zu ALL) (fun j hj=>(zu HG) j (by omega))))
     have S1:=zh hS
     clear hS
     go_wp2
     go_ret
     exact⟨by rw[zu F];rfl,(zu S1).b⟩
end IBalsFit
namespace BHelp
open BMem Bks ILists
open IBalsFit (St one_more)
structure Ix where
 aa:Option Addr
 ca:Nat
 ai:Option Addr
 ci:Nat
 ab:Option Addr
 cb:Nat
 al:Option Addr
 cl:Nat
 ats:Option Addr
 ct:Nat
 b:Bk
structure RdI(w:World)(y:Ix):Prop where
 ra:Pairs.Reads w y.aa y.b.ac
 ri:Pairs.Reads w y.ai y.b.ic
 rb:Triples.Reads3 w y.ab y.b.bs
 rl:Tup5.Reads5 w y.al y.b.ls
 rt:Tup8.Reads8 w y.ats y.b.ts
theorem RdI.below{w w':World}{y:Ix}(h:RdI w y)(k:Below w.heap.size w w'):RdI w' y:=
 ⟨h.ra.below k,h.ri.below k,h.rb.below k,h.rl.below k,h.rt.below k⟩
structure ClI(w:World)(g:Nat)(y:Ix):Prop where
 c0:w.cell? ⟨g,0,none⟩=some (.slice y.aa y.b.ac.length y.ca)
 c1:w.cell? ⟨g,1,none⟩=some (.slice y.ai y.b.ic.length y.ci)
 c2:w.cell? ⟨g,2,none⟩=some (.slice y.ab y.b.bs.length y.cb)
 c3:w.cell? ⟨g,3,none⟩=some (.slice y.al y.b.ls.length y.cl)
 c4:w.cell? ⟨g,4,none⟩=some (.slice y.ats y.b.ts.length y.ct)
 c5:w.cell? ⟨g,5,none⟩=some (.int .i64 y.b.lot)
theorem ClI.below{w w':World}{B g:Nat}{y:Ix}(h:ClI w g y)(k:Below B w w')(hg:g<B):ClI w' g y:=
 ⟨(k.cell (p:=⟨g,0,none⟩) hg).trans h.c0,(k.cell (p:=⟨g,1,none⟩) hg).trans h.c1,(k.cell (p:=⟨g,2,none⟩) hg).trans h.c2,(k.cell (p:=⟨g,3,none⟩) hg).trans h.c3,(k.cell (p:=⟨g,4,none⟩) hg).trans h.c4,(k.cell (p:=⟨g,5,none⟩) hg).trans h.c5⟩
theorem boxedI(w:World)(y:Ix)(e:TypeId):ClI (w.alloc (.cells #[.slice y.aa y.b.ac.length y.ca,.slice y.ai y.b.ic.length y.ci,.slice y.ab y.b.bs.length y.cb,.slice y.al y.b.ls.length y.cl,.slice y.ats y.b.ts.length y.ct,.int .i64 y.b.lot] e)) w.heap.size y:=⟨by simp,by simp,by simp,by simp,by simp,by simp⟩
theorem row_apart{w:World}{base base':Nat}{e e':TypeId}{size size':Nat}{g g' n n' cap cap':Nat}{xs xs':List Value}(h:w.ownsRow base e size (.slice (some ⟨g,0,none⟩) n cap) n xs)(k:w.ownsRow base' e' size' (.slice (some ⟨g',0,none⟩) n' cap') n' xs')(ne:e≠e'):g≠g':=by
 intro eg
 subst eg
 rcases h.2 with⟨h1,_⟩|⟨a,c,cur,h1,h2,h3,_⟩
 ·simp at h1
 ·rcases k.2 with⟨k1,_⟩|⟨a',c',cur',k1,k2,k3,_⟩
  ·simp at k1
  ·obtain⟨e1,_⟩:g=a∧cap=c:=by simpa using h1
   obtain⟨e2,_⟩:g=a'∧cap'=c':=by simpa using k1
   subst e1
   rw[←e2] at k3
   rw[h3] at k3
   simp at k3
   exact ne k3.2
structure TB(w W:World)(y:Ix)(v0 v1 v2 v3 v4 v5:Value):Prop where
 b:Below w.heap.size w W
 ci:ClI W w.heap.size y
 o:Box W w.heap.size (w.heap.size+1+1) v0 v1 v2 v3 v4 v5
 r:Box W w.heap.size (w.heap.size+1) (.slice none 0 0) (.slice none 0 0) (.slice none 0 0) (.slice none 0 0) (.slice none 0 0) (.int .i64 0)
section
variable {w W W':World} {y:Ix} {v0 v1 v2 v3 v4 v5:Value}
theorem TB.call(h:TB w W y v0 v1 v2 v3 v4 v5)(k:Below W.heap.size W W'):TB w W' y v0 v1 v2 v3 v4 v5:=by
 have l:=h.o.lt
 exact⟨h.b.trans (k.mono h.b.size),h.ci.below k (by omega),h.o.below k (by omega),h.r.below k (by omega)⟩
theorem TB.set0(h:TB w W y v0 v1 v2 v3 v4 v5)(u:Value):TB w (W.setCell ⟨w.heap.size+1+1,0,none⟩ u) y u v1 v2 v3 v4 v5:=by
 obtain⟨b,g⟩:=h.o.set0 u
 have n0:some w.heap.size≠some (w.heap.size+1+1):=fun e=>by injection e;omega
 exact⟨h.b.setCell (by simp;omega) u,⟨g.cell h.ci.c0 n0,g.cell h.ci.c1 n0,g.cell h.ci.c2 n0,g.cell h.ci.c3 n0,g.cell h.ci.c4 n0,g.cell h.ci.c5 n0⟩,b,h.r.kept g (fun e=>by injection e;omega)⟩
theorem TB.set1(h:TB w W y v0 v1 v2 v3 v4 v5)(u:Value):TB w (W.setCell ⟨w.heap.size+1+1,1,none⟩ u) y v0 u v2 v3 v4 v5:=by
 obtain⟨b,g⟩:=h.o.set1 u
 have n0:some w.heap.size≠some (w.heap.size+1+1):=fun e=>by injection e;omega
 exact⟨h.b.setCell (by simp;omega) u,⟨g.cell h.ci.c0 n0,g.cell h.ci.c1 n0,g.cell h.ci.c2 n0,g.cell h.ci.c3 n0,g.cell h.ci.c4 n0,g.cell h.ci.c5 n0⟩,b,h.r.kept g (fun e=>by injection e;omega)⟩
theorem TB.set2(h:TB w W y v0 v1 v2 v3 v4 v5)(u:Value):TB w (W.setCell ⟨w.heap.size+1+1,2,none⟩ u) y v0 v1 u v3 v4 v5:=by
 obtain⟨b,g⟩:=h.o.set2 u
 have n0:some w.heap.size≠some (w.heap.size+1+1):=fun e=>by injection e;omega
 exact⟨h.b.setCell (by simp;omega) u,⟨g.cell h.ci.c0 n0,g.cell h.ci.c1 n0,g.cell h.ci.c2 n0,g.cell h.ci.c3 n0,g.cell h.ci.c4 n0,g.cell h.ci.c5 n0⟩,b,h.r.kept g (fun e=>by injection e;omega)⟩
theorem TB.set3(h:TB w W y v0 v1 v2 v3 v4 v5)(u:Value):TB w (W.setCell ⟨w.heap.size+1+1,3,none⟩ u) y v0 v1 v2 u v4 v5:=by
 obtain⟨b,g⟩:=h.o.set3 u
 have n0:some w.heap.size≠some (w.heap.size+1+1):=fun e=>by injection e;omega
 exact⟨h.b.setCell (by simp;omega) u,⟨g.cell h.ci.c0 n0,g.cell h.ci.c1 n0,g.cell h.ci.c2 n0,g.cell h.ci.c3 n0,g.cell h.ci.c4 n0,g.cell h.ci.c5 n0⟩,b,h.r.kept g (fun e=>by injection e;omega)⟩
end
theorem row_store{w:World}{base:Nat}{e:TypeId}{size:Nat}{g n cap:Nat}{xs:List Value}(h:w.ownsRow base e size (.slice (some ⟨g,0,none⟩) n cap) n xs){a:Addr}(ha:a.block<base)(u:Value):(w.setCell a u).ownsRow base e size (.slice (some ⟨g,0,none⟩) n cap) n xs:=ownsRow_setCell_below h ha u
theorem toAccount(w:World)(a:Option Addr)(len cap:Nat)(ps:List (Int×Int))(hl:ps.length=len)(h20:len≤1048576)(hr:Pairs.Reads w a ps):
  Calls Tryz.prog 53 #[.slice a len cap] w fun e w'=>∃g,e= .returned (.slice (some ⟨g,0,none⟩) len len)∧Pairs.Own 129 w' w.heap.size g len len ps∧Below w.heap.size w w':=
 (AccountHelp.toS w a len cap ps hl h20 hr).mono fun e w' ⟨h1,h2,h3⟩=>⟨_,h1,h2,h3⟩
theorem toInstr(w:World)(a:Option Addr)(len cap:Nat)(ps:List (Int×Int))(hl:ps.length=len)(h20:len≤1048576)(hr:Pairs.Reads w a ps):
  Calls Tryz.prog 54 #[.slice a len cap] w fun e w'=>∃g,e= .returned (.slice (some ⟨g,0,none⟩) len len)∧Pairs.Own 130 w' w.heap.size g len len ps∧Below w.heap.size w w':=
 (InstrHelp.toS w a len cap ps hl h20 hr).mono fun e w' ⟨h1,h2,h3⟩=>⟨_,h1,h2,h3⟩
theorem toBal(w:World)(a:Option Addr)(len cap:Nat)(ps:List Bals.T3)(hl:ps.length=len)(h20:len≤1048576)(hr:Triples.Reads3 w a ps):
  Calls Tryz.prog 55 #[.slice a len cap] w fun e w'=>∃g,e= .returned (.slice (some ⟨g,0,none⟩) len len)∧Triples.Own3 132 w' w.heap.size g len len ps∧Below w.heap.size w w':=
 (BalHelp.toS w a len cap ps hl h20 hr).mono fun e w' ⟨h1,h2,h3⟩=>⟨_,h1,h2,h3⟩
theorem toLot(w:World)(a:Option Addr)(len cap:Nat)(ps:List Tup5.T5)(hl:ps.length=len)(h20:len≤1048576)(hr:Tup5.Reads5 w a ps):
  Calls Tryz.prog 56 #[.slice a len cap] w fun e w'=>∃g,e= .returned (.slice (some ⟨g,0,none⟩) len len)∧Tup5.Own5 134 w' w.heap.size g len len ps∧Below w.heap.size w w':=
 (LotHelp.toS w a len cap ps hl h20 hr).mono fun e w' ⟨h1,h2,h3⟩=>⟨_,h1,h2,h3⟩
theorem toTrade(w:World)(a:Option Addr)(len cap:Nat)(ps:List Tup8.T8)(hl:ps.length=len)(h20:len≤1048576)(hr:Tup8.Reads8 w a ps):
  Calls Tryz.prog 57 #[.slice a len cap] w fun e w'=>∃g,e= .returned (.slice (some ⟨g,0,none⟩) len len)∧Tup8.Own8 136 w' w.heap.size g len len ps∧Below w.heap.size w w':=
 (TradeHelp.toS w a len cap ps hl h20 hr).mono fun e w' ⟨h1,h2,h3⟩=>⟨_,h1,h2,h3⟩
theorem toB(w:World)(y:Ix)(h:RdI w y)(hs:Small y.b):
  Calls Tryz.prog 18 #[.agg #[.slice y.aa y.b.ac.length y.ca,.slice y.ai y.b.ic.length y.ci,.slice y.ab y.b.bs.length y.cb,.slice y.al y.b.ls.length y.cl,.slice y.ats y.b.ts.length y.ct,.int .i64 y.b.lot]] w fun e w'=>∃x:Bx,x.b=y.b∧e= .returned (.agg #[.slice (some ⟨x.ga,0,none⟩) x.b.ac.length x.ca,.slice (some ⟨x.gi,0,none⟩) x.b.ic.length x.ci,.slice (some ⟨x.gb,0,none⟩) x.b.bs.length x.cb,.slice (some ⟨x.gl,0,none⟩) x.b.ls.length x.cl,.slice (some ⟨x.gt,0,none⟩) x.b.ts.length x.ct,.int .i64 x.b.lot])∧Ow w' w.heap.size x∧Below w.heap.size w w':=by
 obtain⟨na,ni,nb,nl,nt⟩:=hs
 have H:=zh h
 have T0:=zh (show TB w (((w.alloc (.cells #[.slice y.aa y.b.ac.length y.ca,.slice y.ai y.b.ic.length y.ci,.slice y.ab y.b.bs.length y.cb,.slice y.al y.b.ls.length y.cl,.slice y.ats y.b.ts.length y.ct,.int .i64 y.b.lot] 31)).alloc (.cells #[.slice none 0 0,.slice none 0 0,.slice none 0 0,.slice none 0 0,.slice none 0 0,.int .i64 0] 44)).alloc (.cells #[.slice none 0 0,.slice none 0 0,.slice none 0 0,.slice none 0 0,.slice none 0 0,.int .i64 0] 44)) y (.slice none 0 0) (.slice none 0 0) (.slice none 0 0) (.slice none 0 0) (.slice none 0 0) (.int .i64 0) from by
  have b2:Below (w.alloc (.cells #[.slice y.aa y.b.ac.length y.ca,.slice y.ai y.b.ic.length y.ci,.slice y.ab y.b.bs.length y.cb,.slice y.al y.b.ls.length y.cl,.slice y.ats y.b.ts.length y.ct,.int .i64 y.b.lot] 31)).heap.size (w.alloc (.cells #[.slice y.aa y.b.ac.length y.ca,.slice y.ai y.b.ic.length y.ci,.slice y.ab y.b.bs.length y.cb,.slice y.al y.b.ls.length y.cl,.slice y.ats y.b.ts.length y.ct,.int .i64 y.b.lot] 31)) (((w.alloc (.cells #[.slice y.aa y.b.ac.length y.ca,.slice y.ai y.b.ic.length y.ci,.slice y.ab y.b.bs.length y.cb,.slice y.al y.b.ls.length y.cl,.slice y.ats y.b.ts.length y.ct,.int .i64 y.b.lot] 31)).alloc (.cells #[.slice none 0 0,.slice none 0 0,.slice none 0 0,.slice none 0 0,.slice none 0 0,.int .i64 0] 44)).alloc (.cells #[.slice none 0 0,.slice none 0 0,.slice none 0 0,.slice none 0 0,.slice none 0 0,.int .i64 0] 44)):=((Below.refl _ _).alloc (Nat.le_refl _) _).alloc (by simp) _
  exact⟨((Below.refl w.heap.size w).alloc (Nat.le_refl _) _).trans (b2.mono (by simp)),(boxedI w y 31).below b2 (by simp),Box.made _ _ _ _ _ _ (by simp;omega) (by simp),(Box.made (w:=w.alloc (.cells #[.slice y.aa y.b.ac.length y.ca,.slice y.ai y.b.ic.length y.ci,.slice y.ab y.b.bs.length y.cb,.slice y.al y.b.ls.length y.cl,.slice y.ats y.b.ts.length y.ct,.int .i64 y.b.lot] 31)) (g:=w.heap.size+1) _ _ _ _ _ _ (by simp) (by simp)).below (one_more _ _) (by simp)⟩)
 clear h
 go_enter Tryz.func18,Tryz.ntmps18
 go_wp2_with fail
 have U0:=T0
 refine(toAccount _ y.aa _ y.ca y.b.ac rfl na ((zu H).below (zu U0).b).ra).mono ?_
 rintro e w1 ⟨g0,rfl,o,bb⟩
 have T1:=zh ((zu U0).call bb)
 have O0:=zh (show Pairs.Own 129 w1 (w.heap.size+3) g0 y.b.ac.length y.b.ac.length y.b.ac from o.rebase (by have:=(zu U0).o.lt;have:=o.lt;omega))
 clear bb o
 have c0:=(zu T1).o.c0
 have d0:=(zu T1).o.free 0
 have e1:=(zu T1).ci.c1
 go_wp2_with fail
 have U1:=zh ((zu T1).set0 (.slice (some ⟨g0,0,none⟩) y.b.ac.length y.b.ac.length))
 replace O0:=zh (row_store (zu O0) (a:=⟨w.heap.size+1+1,0,none⟩) (by simp) (.slice (some ⟨g0,0,none⟩) y.b.ac.length y.b.ac.length))
 refine(toInstr _ y.ai _ y.ci y.b.ic rfl ni ((zu H).below (zu U1).b).ri).mono ?_
 rintro e w2 ⟨g1,rfl,o,bb⟩
 have T2:=zh ((zu U1).call bb)
 have O1:=zh (show Pairs.Own 130 w2 (w.heap.size+3) g1 y.b.ic.length y.b.ic.length y.b.ic from o.rebase (by have:=(zu U1).o.lt;have:=o.lt;omega))
 replace O0:=zh (show Pairs.Own 129 w2 (w.heap.size+3) g0 y.b.ac.length y.b.ac.length y.b.ac from Pairs.Own.below (zu O0) bb (by have:=World.ownsRow.lt (zu O0) g0 rfl;omega))
 clear bb o
 have c1:=(zu T2).o.c1
 have d1:=(zu T2).o.free 1
 have e2:=(zu T2).ci.c2
 go_wp2_with fail
 have U2:=zh ((zu T2).set1 (.slice (some ⟨g1,0,none⟩) y.b.ic.length y.b.ic.length))
 replace O0:=zh (row_store (zu O0) (a:=⟨w.heap.size+1+1,1,none⟩) (by simp) (.slice (some ⟨g1,0,none⟩) y.b.ic.length y.b.ic.length))
 replace O1:=zh (row_store (zu O1) (a:=⟨w.heap.size+1+1,1,none⟩) (by simp) (.slice (some ⟨g1,0,none⟩) y.b.ic.length y.b.ic.length))
 refine(toBal _ y.ab _ y.cb y.b.bs rfl nb ((zu H).below (zu U2).b).rb).mono ?_
 rintro e w3 ⟨g2,rfl,o,bb⟩
 have T3:=zh ((zu U2).call bb)
 have O2:=zh (show Triples.Own3 132 w3 (w.heap.size+3) g2 y.b.bs.length y.b.bs.length y.b.bs from o.rebase (by have:=(zu U2).o.lt;have:=o.lt;omega))
 replace O0:=zh (show Pairs.Own 129 w3 (w.heap.size+3) g0 y.b.ac.length y.b.ac.length y.b.ac from Pairs.Own.below (zu O0) bb (by have:=World.ownsRow.lt (zu O0) g0 rfl;omega))
 replace O1:=zh (show Pairs.Own 130 w3 (w.heap.size+3) g1 y.b.ic.length y.b.ic.length y.b.ic from Pairs.Own.below (zu O1) bb (by have:=World.ownsRow.lt (zu O1) g1 rfl;omega))
 clear bb o
 have c2:=(zu T3).o.c2
 have d2:=(zu T3).o.free 2
 have e3:=(zu T3).ci.c3
 go_wp2_with fail
 have U3:=zh ((zu T3).set2 (.slice (some ⟨g2,0,none⟩) y.b.bs.length y.b.bs.length))
 replace O0:=zh (row_store (zu O0) (a:=⟨w.heap.size+1+1,2,none⟩) (by simp) (.slice (some ⟨g2,0,none⟩) y.b.bs.length y.b.bs.length))
 replace O1:=zh (row_store (zu O1) (a:=⟨w.heap.size+1+1,2,none⟩) (by simp) (.slice (some ⟨g2,0,none⟩) y.b.bs.length y.b.bs.length))
 replace O2:=zh (row_store (zu O2) (a:=⟨w.heap.size+1+1,2,none⟩) (by simp) (.slice (some ⟨g2,0,none⟩) y.b.bs.length y.b.bs.length))
 refine(toLot _ y.al _ y.cl y.b.ls rfl nl ((zu H).below (zu U3).b).rl).mono ?_
 rintro e w4 ⟨g3,rfl,o,bb⟩
 have T4:=zh ((zu U3).call bb)
 have O3:=zh (show Tup5.Own5 134 w4 (w.heap.size+3) g3 y.b.ls.length y.b.ls.length y.b.ls from o.rebase (by have:=(zu U3).o.lt;have:=o.lt;omega))
 replace O0:=zh (show Pairs.Own 129 w4 (w.heap.size+3) g0 y.b.ac.length y.b.ac.length y.b.ac from Pairs.Own.below (zu O0) bb (by have:=World.ownsRow.lt (zu O0) g0 rfl;omega))
 replace O1:=zh (show Pairs.Own 130 w4 (w.heap.size+3) g1 y.b.ic.length y.b.ic.length y.b.ic from Pairs.Own.below (zu O1) bb (by have:=World.ownsRow.lt (zu O1) g1 rfl;omega))
 replace O2:=zh (show Triples.Own3 132 w4 (w.heap.size+3) g2 y.b.bs.length y.b.bs.length y.b.bs from Triples.Own3.below (zu O2) bb (by have:=World.ownsRow.lt (zu O2) g2 rfl;omega))
 clear bb o
 have c3:=(zu T4).o.c3
 have d3:=(zu T4).o.free 3
 have e4:=(zu T4).ci.c4
 go_wp2_with fail
 have U4:=zh ((zu T4).set3 (.slice (some ⟨g3,0,none⟩) y.b.ls.length y.b.ls.length))
 replace O0:=zh (row_store (zu O0) (a:=⟨w.heap.size+1+1,3,none⟩) (by simp) (.slice (some ⟨g3,0,none⟩) y.b.ls.length y.b.ls.length))
 replace O1:=zh (row_store (zu O1) (a:=⟨w.heap.size+1+1,3,none⟩) (by simp) (.slice (some ⟨g3,0,none⟩) y.b.ls.length y.b.ls.length))
 replace O2:=zh (row_store (zu O2) (a:=⟨w.heap.size+1+1,3,none⟩) (by simp) (.slice (some ⟨g3,0,none⟩) y.b.ls.length y.b.ls.length))
 replace O3:=zh (row_store (zu O3) (a:=⟨w.heap.size+1+1,3,none⟩) (by simp) (.slice (some ⟨g3,0,none⟩) y.b.ls.length y.b.ls.length))
 refine(toTrade _ y.ats _ y.ct y.b.ts rfl nt ((zu H).below (zu U4).b).rt).mono ?_
 rintro e w5 ⟨g4,rfl,o,bb⟩
 have T5:=zh ((zu U4).call bb)
 have O4:=zh (show Tup8.Own8 136 w5 (w.heap.size+3) g4 y.b.ts.length y.b.ts.length y.b.ts from o.rebase (by have:=(zu U4).o.lt;have:=o.lt;omega))
 replace O0:=zh (show Pairs.Own 129 w5 (w.heap.size+3) g0 y.b.ac.length y.b.ac.length y.b.ac from Pairs.Own.below (zu O0) bb (by have:=World.ownsRow.lt (zu O0) g0 rfl;omega))
 replace O1:=zh (show Pairs.Own 130 w5 (w.heap.size+3) g1 y.b.ic.length y.b.ic.length y.b.ic from Pairs.Own.below (zu O1) bb (by have:=World.ownsRow.lt (zu O1) g1 rfl;omega))
 replace O2:=zh (show Triples.Own3 132 w5 (w.heap.size+3) g2 y.b.bs.length y.b.bs.length y.b.bs from Triples.Own3.below (zu O2) bb (by have:=World.ownsRow.lt (zu O2) g2 rfl;omega))
 replace O3:=zh (show Tup5.Own5 134 w5 (w.heap.size+3) g3 y.b.ls.length y.b.ls.length y.b.ls from Tup5.Own5.below (zu O3) bb (by have:=World.ownsRow.lt (zu O3) g3 rfl;omega))
 clear bb o
 have c4:=(zu T5).o.c4
 have d4:=(zu T5).o.free 4
 clear c0 c1 c2 c3 d0 d1 d2 d3 e1 e2 e3 e4
 have e5:=(zu T5).ci.c5
 have c0:=(zu T5).o.c0
 have c1:=(zu T5).o.c1
 have c2:=(zu T5).o.c2
 have c3:=(zu T5).o.c3
 have c5:=(zu T5).o.c5
 have d5:=(zu T5).o.free 5
 have r0:=(zu T5).r.c0
 have f0:=(zu T5).r.free 0
 have r1:=(zu T5).r.c1
 have f1:=(zu T5).r.free 1
 have r2:=(zu T5).r.c2
 have f2:=(zu T5).r.free 2
 have r3:=(zu T5).r.c3
 have f3:=(zu T5).r.free 3
 have r4:=(zu T5).r.c4
 have f4:=(zu T5).r.free 4
 have r5:=(zu T5).r.c5
 have f5:=(zu T5).r.free 5
 have B5:=zh (zu T5).b
 go_wp2
 refine bodyPost_ret (v:= .agg #[.slice (some ⟨g0,0,none⟩) y.b.ac.length y.b.ac.length,.slice (some ⟨g1,0,none⟩) y.b.ic.length y.b.ic.length,.slice (some ⟨g2,0,none⟩) y.b.bs.length y.b.bs.length,.slice (some ⟨g3,0,none⟩) y.b.ls.length y.b.ls.length,.slice (some ⟨g4,0,none⟩) y.b.ts.length y.b.ts.length,.int .i64 y.b.lot]) (by simp[results,Tryz.results18,go_sem,r0,r1,r2,r3,r4,r5]) rfl ⟨⟨g0,y.b.ac.length,g1,y.b.ic.length,g2,y.b.bs.length,g3,y.b.ls.length,g4,y.b.ts.length,y.b⟩,rfl,rfl,?_,?_⟩
 ·exact Ow.rebase (base:=w.heap.size+3) ⟨(row_store (row_store (row_store (row_store (row_store (row_store (row_store (row_store (zu O0) (a:=⟨w.heap.size+1+1,4,none⟩) (by simp) _) (a:=⟨w.heap.size+1+1,5,none⟩) (by simp) _) (a:=⟨w.heap.size+1,0,none⟩) (by simp) _) (a:=⟨w.heap.size+1,1,none⟩) (by simp) _) (a:=⟨w.heap.size+1,2,none⟩) (by simp) _) (a:=⟨w.heap.size+1,3,none⟩) (by simp) _) (a:=⟨w.heap.size+1,4,none⟩) (by simp) _) (a:=⟨w.heap.size+1,5,none⟩) (by simp) _),(row_store (row_store (row_store (row_store (row_store (row_store (row_store (row_store (zu O1) (a:=⟨w.heap.size+1+1,4,none⟩) (by simp) _) (a:=⟨w.heap.size+1+1,5,none⟩) (by simp) _) (a:=⟨w.heap.size+1,0,none⟩) (by simp) _) (a:=⟨w.heap.size+1,1,none⟩) (by simp) _) (a:=⟨w.heap.size+1,2,none⟩) (by simp) _) (a:=⟨w.heap.size+1,3,none⟩) (by simp) _) (a:=⟨w.heap.size+1,4,none⟩) (by simp) _) (a:=⟨w.heap.size+1,5,none⟩) (by simp) _),(row_store (row_store (row_store (row_store (row_store (row_store (row_store (row_store (zu O2) (a:=⟨w.heap.size+1+1,4,none⟩) (by simp) _) (a:=⟨w.heap.size+1+1,5,none⟩) (by simp) _) (a:=⟨w.heap.size+1,0,none⟩) (by simp) _) (a:=⟨w.heap.size+1,1,none⟩) (by simp) _) (a:=⟨w.heap.size+1,2,none⟩) (by simp) _) (a:=⟨w.heap.size+1,3,none⟩) (by simp) _) (a:=⟨w.heap.size+1,4,none⟩) (by simp) _) (a:=⟨w.heap.size+1,5,none⟩) (by simp) _),(row_store (row_store (row_store (row_store (row_store (row_store (row_store (row_store (zu O3) (a:=⟨w.heap.size+1+1,4,none⟩) (by simp) _) (a:=⟨w.heap.size+1+1,5,none⟩) (by simp) _) (a:=⟨w.heap.size+1,0,none⟩) (by simp) _) (a:=⟨w.heap.size+1,1,none⟩) (by simp) _) (a:=⟨w.heap.size+1,2,none⟩) (by simp) _) (a:=⟨w.heap.size+1,3,none⟩) (by simp) _) (a:=⟨w.heap.size+1,4,none⟩) (by simp) _) (a:=⟨w.heap.size+1,5,none⟩) (by simp) _),(row_store (row_store (row_store (row_store (row_store (row_store (row_store (row_store (zu O4) (a:=⟨w.heap.size+1+1,4,none⟩) (by simp) _) (a:=⟨w.heap.size+1+1,5,none⟩) (by simp) _) (a:=⟨w.heap.size+1,0,none⟩) (by simp) _) (a:=⟨w.heap.size+1,1,none⟩) (by simp) _) (a:=⟨w.heap.size+1,2,none⟩) (by simp) _) (a:=⟨w.heap.size+1,3,none⟩) (by simp) _) (a:=⟨w.heap.size+1,4,none⟩) (by simp) _) (a:=⟨w.heap.size+1,5,none⟩) (by simp) _)⟩ (by omega)
 ·exact(((((((((zu B5).setCell (p:=⟨w.heap.size+1+1,4,none⟩) (by simp;omega) _).setCell (p:=⟨w.heap.size+1+1,5,none⟩) (by simp;omega) _).setCell (p:=⟨w.heap.size+1,0,none⟩) (by simp) _).setCell (p:=⟨w.heap.size+1,1,none⟩) (by simp) _).setCell (p:=⟨w.heap.size+1,2,none⟩) (by simp) _).setCell (p:=⟨w.heap.size+1,3,none⟩) (by simp) _).setCell (p:=⟨w.heap.size+1,4,none⟩) (by simp) _).setCell (p:=⟨w.heap.size+1,5,none⟩) (by simp) _)
end BHelp
namespace BkEq
open BMem Bks ILists BHelp
open IBalsFit (St one_more)
def Fits(b:Bk):Prop:=b.ac.length≤9223372036854775807∧b.ic.length≤9223372036854775807∧b.bs.length≤9223372036854775807∧b.ls.length≤9223372036854775807∧b.ts.length≤9223372036854775807
def e1(b:Bk):Int:=1+2*(b.ac.length:Int)
def e2(b:Bk):Int:=e1 b+2*(b.ic.length:Int)
end BkEq
namespace SBals
open BMem Bks IRead IHave ITrade ILists IBalsFit
open Lots (Says says_of NoOk)
open Bals (T3 el3 val sumI)
theorem sKindA(w:World)(x:Bx)(no r:Int)(h:Rd w x)(hr:Chart.Right 20 4 x.b.ac)(hk:kindOf x.b.ac no=r):
  Calls Tryz.prog 93 #[.slice (some ⟨x.ga,0,none⟩) x.b.ac.length x.ca,.int .i64 no] w fun e w'=>e= .returned (.int .i64 r)∧Below w.heap.size w w':=
 (AccountSOk.sKind w x.ga _ x.ca x.b.ac no rfl h.na h.ra).mono fun e w' ⟨r',h1,h2,q,h3⟩=>⟨by rw[h2,kind_is hr h1,hk],by rw[h3];exact below_drewN (Below.refl _ _) q⟩
theorem sKindI(w:World)(x:Bx)(no r:Int)(h:Rd w x)(hr:Chart.Right 8 2 x.b.ic)(hk:kindOf x.b.ic no=r):
  Calls Tryz.prog 94 #[.slice (some ⟨x.gi,0,none⟩) x.b.ic.length x.ci,.int .i64 no] w fun e w'=>e= .returned (.int .i64 r)∧Below w.heap.size w w':=
 (InstrSOk.sKind w x.gi _ x.ci x.b.ic no rfl h.ni h.ri).mono fun e w' ⟨r',h1,h2,q,h3⟩=>⟨by rw[h2,kind_is hr h1,hk],by rw[h3];exact below_drewN (Below.refl _ _) q⟩
theorem sBals(w:World)(x:Bx)(b:Bool)(h:Rd w x)(hl:Lists x.b)(hb:Says b (BalsFit x.b)):
  Calls Tryz.prog 91 #[.agg #[.slice (some ⟨x.ga,0,none⟩) x.b.ac.length x.ca,.slice (some ⟨x.gi,0,none⟩) x.b.ic.length x.ci,.slice (some ⟨x.gb,0,none⟩) x.b.bs.length x.cb,.slice (some ⟨x.gl,0,none⟩) x.b.ls.length x.cl,.slice (some ⟨x.gt,0,none⟩) x.b.ts.length x.ct,.int .i64 x.b.lot]] w fun e w'=>e= .returned (.bool b)∧Below w.heap.size w w':=by
 have T:=zh hb
 have L:=zh hl
 have S0:=zh (St.start h 44)
 have nb:=h.nb
 clear hb hl h
 go_enter Tryz.func91,Tryz.ntmps91
 go_wp2
 go_loopw [3] (fun i wr=>∃(k:Nat),k≤x.b.bs.length∧i= .int .i64 k∧St w wr x∧Hid (∀j,j<k→BalFit x.b (el3 x.b.bs j)∧sumI x.b.bs (el3 x.b.bs j).2.1=0)) (fun i _=>x.b.bs.length-(intOf i).toNat)
 case atStart=>exact⟨0,by omega,rfl,zu S0,zh (fun i hi=>absurd hi (by omega))⟩
 case round=>
  obtain⟨k,hk,rfl,hS,HG⟩:=hrel
  clear S0
  by_cases t:k<x.b.bs.length
  ·obtain⟨d0,d1,d2⟩:=(hS.r.rb k t)
   obtain⟨c0,c1,c2,c3,c4,c5⟩:=hS.c
   have BAD:=zh (show ¬(BalFit x.b (el3 x.b.bs k)∧sumI x.b.bs (el3 x.b.bs k).2.1=0)→b=false from fun hr=>(zu T).not (fun r=>hr ⟨r.1 k t,r.2 _⟩))
   have GOOD:=zh (show(BalFit x.b (el3 x.b.bs k)∧sumI x.b.bs (el3 x.b.bs k).2.1=0)→∀i,i<k+1→BalFit x.b (el3 x.b.bs i)∧sumI x.b.bs (el3 x.b.bs i).2.1=0 from fun hr i hi=>by
    by_cases e:i=k
    ·subst e;exact hr
    ·exact(zu HG) i (by omega))
   have FIT:=zh (show BalFit x.b (el3 x.b.bs k)↔kindOf x.b.ac (el3 x.b.bs k).1≠0∧kindOf x.b.ic (el3 x.b.bs k).2.1≠0∧¬(kindOf x.b.ac (el3 x.b.bs k).1=1∧(el3 x.b.bs k).2.2<0) from Iff.rfl)
   have wz:=hS.s
   have S1:=zh (hS.step (one_more wr (.cells #[.int .i64 (el3 x.b.bs k).1,.int .i64 (el3 x.b.bs k).2.1,.int .i64 (el3 x.b.bs k).2.2] 132)))
   clear hS
   generalize BalFit x.b (el3 x.b.bs k)=FP at *
   generalize (el3 x.b.bs k).1=y0 at *
   generalize (el3 x.b.bs k).2.1=y1 at *
   generalize (el3 x.b.bs k).2.2=y2 at *
   generalize hK:kindOf x.b.ac y0=K at *
   generalize hJ:kindOf x.b.ic y1=J at *
   have HK:=zh hK
   have HJ:=zh hJ
   clear hK hJ
   go_wp2_with fail
   refine(sKindA _ x y0 K (zu S1).r (zu L).1 (zu HK)).mono ?_
   rintro e w1 ⟨rfl,bb⟩
   have S2:=zh ((zu S1).step bb)
   have f0:w1.cell? ⟨wr.heap.size,0,none⟩=some (.int .i64 y0):=(bb.cell (p:=⟨wr.heap.size,0,none⟩) (by simp)).trans (by simp)
   have f1:w1.cell? ⟨wr.heap.size,1,none⟩=some (.int .i64 y1):=(bb.cell (p:=⟨wr.heap.size,1,none⟩) (by simp)).trans (by simp)
   have f2:w1.cell? ⟨wr.heap.size,2,none⟩=some (.int .i64 y2):=(bb.cell (p:=⟨wr.heap.size,2,none⟩) (by simp)).trans (by simp)
   have z1:wr.heap.size<w1.heap.size:=by have:=bb.size;simp at this;omega
   clear bb c0 c1 c2 c3 c4 c5 d0 d1 d2
   obtain⟨c0,c1,c2,c3,c4,c5⟩:=(zu S2).c
   by_cases q0:K=0
   ·have F:=zh ((zu BAD) (fun hh=>((zu FIT).1 hh.1).1 q0))
    have hq:(K==0)=true:=by simp[q0]
    clear BAD GOOD FIT T q0
    go_wp2
    go_ret
    exact⟨by rw[zu F];rfl,(zu S2).b⟩
   have hq0:(K==0)=false:=by simp[q0]
   have Q0:=zh q0
   clear q0
   go_wp2_with fail
   refine(sKindI _ x y1 J (zu S2).r (zu L).2.1 (zu HJ)).mono ?_
   rintro e w2 ⟨rfl,bb⟩
   have S3:=zh ((zu S2).step bb)
   replace f0:w2.cell? ⟨wr.heap.size,0,none⟩=some (.int .i64 y0):=(bb.cell (p:=⟨wr.heap.size,0,none⟩) z1).trans f0
   replace f1:w2.cell? ⟨wr.heap.size,1,none⟩=some (.int .i64 y1):=(bb.cell (p:=⟨wr.heap.size,1,none⟩) z1).trans f1
   replace f2:w2.cell? ⟨wr.heap.size,2,none⟩=some (.int .i64 y2):=(bb.cell (p:=⟨wr.heap.size,2,none⟩) z1).trans f2
   have z2:wr.heap.size<w2.heap.size:=Nat.lt_of_lt_of_le z1 bb.size
   clear bb c0 c1 c2 c3 c4 c5
   obtain⟨c0,c1,c2,c3,c4,c5⟩:=(zu S3).c
   by_cases q1:J=0
   ·have F:=zh ((zu BAD) (fun hh=>((zu FIT).1 hh.1).2.1 q1))
    have hq:(J==0)=true:=by simp[q1]
    clear BAD GOOD FIT T q1
    go_wp2
    go_ret
    exact⟨by rw[zu F];rfl,(zu S3).b⟩
   have hq1:(J==0)=false:=by simp[q1]
   have Q1:=zh q1
   clear q1
   by_cases q2:K=1
   ·have hq2:(K==1)=true:=by simp[q2]
    by_cases q3:y2<0
    ·have F:=zh ((zu BAD) (fun hh=>((zu FIT).1 hh.1).2.2 ⟨q2,q3⟩))
     clear BAD GOOD FIT T q2
     go_wp2
     go_ret
     exact⟨by rw[zu F];rfl,(zu S3).b⟩
    have FP':=zh ((zu FIT).2 ⟨zu Q0,zu Q1,fun r=>q3 r.2⟩)
    have hq3:decide (y2<0)=false:=decide_eq_false q3
    clear q2 q3 FIT
    obtain⟨r,c,hs⟩:=Look.sum_is x.b.bs y1
    have Z:=zh (sum_zero (zu L).2.2.1 hs)
    have HS:=zh hs
    clear hs
    go_wp2_with fail
    refine(Look.sSum _ x.gb _ x.cb x.b.bs y1 r c rfl nb (zu S3).r.lb (zu S3).r.rb (zu HS)).mono ?_
    rintro e w3 ⟨rfl,bb⟩
    have S4:=zh ((zu S3).step bb)
    clear bb c0 c1 c2 c3 c4 c5 f0 f1 f2
    cases c
    ·have F:=zh ((zu BAD) (fun e=>by have:=(zu Z).2 e.2;cases this.1))
     clear BAD GOOD T
     go_wp2
     go_ret
     exact⟨by rw[zu F];rfl,(zu S4).b⟩
    by_cases q:r=0
    ·have G:=zh ((zu GOOD) ⟨zu FP',(zu Z).1 ⟨rfl,q⟩⟩)
     have hq:(r !=0)=false:=by simp[q]
     clear BAD GOOD q
     go_wp2
     go_roundw
     case rel=>exact⟨k+1,by omega,by go_num,zu S4,G⟩
     case measure=>simp[intOf];omega
    ·have F:=zh ((zu BAD) (fun e=>q ((zu Z).2 e.2).2))
     have hq:(r !=0)=true:=by simp[q]
     clear BAD GOOD T q
     go_wp2
     go_ret
     exact⟨by rw[zu F];rfl,(zu S4).b⟩
   ·have hq2:(K==1)=false:=by simp[q2]
    have FP':=zh ((zu FIT).2 ⟨zu Q0,zu Q1,fun r=>q2 r.1⟩)
    clear q2 FIT
    obtain⟨r,c,hs⟩:=Look.sum_is x.b.bs y1
    have Z:=zh (sum_zero (zu L).2.2.1 hs)
    have HS:=zh hs
    clear hs
    go_wp2_with fail
    refine(Look.sSum _ x.gb _ x.cb x.b.bs y1 r c rfl nb (zu S3).r.lb (zu S3).r.rb (zu HS)).mono ?_
    rintro e w3 ⟨rfl,bb⟩
    have S4:=zh ((zu S3).step bb)
    clear bb c0 c1 c2 c3 c4 c5 f0 f1 f2
    cases c
    ·have F:=zh ((zu BAD) (fun e=>by have:=(zu Z).2 e.2;cases this.1))
     clear BAD GOOD T
     go_wp2
     go_ret
     exact⟨by rw[zu F];rfl,(zu S4).b⟩
    by_cases q:r=0
    ·have G:=zh ((zu GOOD) ⟨zu FP',(zu Z).1 ⟨rfl,q⟩⟩)
     have hq:(r !=0)=false:=by simp[q]
     clear BAD GOOD q
     go_wp2
     go_roundw
     case rel=>exact⟨k+1,by omega,by go_num,zu S4,G⟩
     case measure=>simp[intOf];omega
    ·have F:=zh ((zu BAD) (fun e=>q ((zu Z).2 e.2).2))
     have hq:(r !=0)=true:=by simp[q]
     clear BAD GOOD T q
     go_wp2
     go_ret
     exact⟨by rw[zu F];rfl,(zu S4).b⟩
  ·have F:=zh ((zu T).of (bals_spec (fun j hj=>(zu HG) j (by omega))))
   obtain⟨c0,c1,c2,c3,c4,c5⟩:=hS.c
   have S1:=zh hS
   clear hS
   go_wp2
   go_ret
   exact⟨by rw[zu F];rfl,(zu S1).b⟩
end SBals
namespace ITradesFit
open BMem Bks IRead IHave ITrade ILists IBalsFit IIndex8
open Lots (Says says_of NoOk)
open Tup8 (T8 el8 At8 Holds8)
theorem iTradeFits(w:World)(x:Bx)(y0 y1 y2 y3 y4 y5 y6 y7:Int)(b:Bool)(h:Rd w x)(ha:Chart.Right 20 4 x.b.ac)(hi:Chart.Right 8 2 x.b.ic)(hb:Says b (TradeFit x.b (y0,y1,y2,y3,y4,y5,y6,y7))):
  Calls Tryz.prog 192 #[.agg #[.slice (some ⟨x.ga,0,none⟩) x.b.ac.length x.ca,.slice (some ⟨x.gi,0,none⟩) x.b.ic.length x.ci,.slice (some ⟨x.gb,0,none⟩) x.b.bs.length x.cb,.slice (some ⟨x.gl,0,none⟩) x.b.ls.length x.cl,.slice (some ⟨x.gt,0,none⟩) x.b.ts.length x.ct,.int .i64 x.b.lot],.agg #[.int .i64 y0,.int .i64 y1,.int .i64 y2,.int .i64 y3,.int .i64 y4,.int .i64 y5,.int .i64 y6,.int .i64 y7]] w fun e w'=>e= .returned (.bool b)∧Below w.heap.size w w':=by
 have T:=zh hb
 have LA:=zh ha
 have LI:=zh hi
 have FIT:=zh (show TradeFit x.b (y0,y1,y2,y3,y4,y5,y6,y7)↔kindOf x.b.ac y1=1∧kindOf x.b.ac y2=1∧kindOf x.b.ic y3=2∧kindOf x.b.ic y5=1 from Iff.rfl)
 have S1:=zh ((St.start h 44).step (one_more (w.alloc (.cells #[.slice (some ⟨x.ga,0,none⟩) x.b.ac.length x.ca,.slice (some ⟨x.gi,0,none⟩) x.b.ic.length x.ci,.slice (some ⟨x.gb,0,none⟩) x.b.bs.length x.cb,.slice (some ⟨x.gl,0,none⟩) x.b.ls.length x.cl,.slice (some ⟨x.gt,0,none⟩) x.b.ts.length x.ct,.int .i64 x.b.lot] 44)) (.cells #[.int .i64 y0,.int .i64 y1,.int .i64 y2,.int .i64 y3,.int .i64 y4,.int .i64 y5,.int .i64 y6,.int .i64 y7] 136)))
 clear hb ha hi h
 obtain⟨b1,h1⟩:=says_of (kindOf x.b.ac y1=1)
 obtain⟨b2,h2⟩:=says_of (kindOf x.b.ac y2=1)
 obtain⟨b3,h3⟩:=says_of (kindOf x.b.ic y3=2)
 obtain⟨b4,h4⟩:=says_of (kindOf x.b.ic y5=1)
 have H1:=zh h1
 have H2:=zh h2
 have H3:=zh h3
 have H4:=zh h4
 clear h1 h2 h3 h4
 go_enter Tryz.func192,Tryz.ntmps192
 go_wp2_with fail
 refine(iHolder _ x y1 b1 (zu S1).r (zu LA) (zu H1)).mono ?_
 rintro e w1 ⟨rfl,bb⟩
 have S2:=zh ((zu S1).step bb)
 have f2:w1.cell? ⟨w.heap.size+1,2,none⟩=some (.int .i64 y2):=(bb.cell (p:=⟨w.heap.size+1,2,none⟩) (by simp)).trans (by simp)
 have f3:w1.cell? ⟨w.heap.size+1,3,none⟩=some (.int .i64 y3):=(bb.cell (p:=⟨w.heap.size+1,3,none⟩) (by simp)).trans (by simp)
 have f5:w1.cell? ⟨w.heap.size+1,5,none⟩=some (.int .i64 y5):=(bb.cell (p:=⟨w.heap.size+1,5,none⟩) (by simp)).trans (by simp)
 have z1:w.heap.size+1<w1.heap.size:=by have:=bb.size;simp at this;omega
 clear bb
 cases b1
 ·have F:=zh ((zu T).not (fun hh=>(zu H1).no ((zu FIT).1 hh).1))
  clear FIT T
  go_wp2
  go_ret
  exact⟨by rw[zu F];rfl,(zu S2).b⟩
 obtain⟨c0,c1,c2,c3,c4,c5⟩:=(zu S2).c
 go_wp2_with fail
 refine(iHolder _ x y2 b2 (zu S2).r (zu LA) (zu H2)).mono ?_
 rintro e w2 ⟨rfl,bb⟩
 have S3:=zh ((zu S2).step bb)
 replace f2:w2.cell? ⟨w.heap.size+1,2,none⟩=some (.int .i64 y2):=(bb.cell (p:=⟨w.heap.size+1,2,none⟩) z1).trans f2
 replace f3:w2.cell? ⟨w.heap.size+1,3,none⟩=some (.int .i64 y3):=(bb.cell (p:=⟨w.heap.size+1,3,none⟩) z1).trans f3
 replace f5:w2.cell? ⟨w.heap.size+1,5,none⟩=some (.int .i64 y5):=(bb.cell (p:=⟨w.heap.size+1,5,none⟩) z1).trans f5
 have z2:w.heap.size+1<w2.heap.size:=Nat.lt_of_lt_of_le z1 bb.size
 clear bb c0 c1 c2 c3 c4 c5
 cases b2
 ·have F:=zh ((zu T).not (fun hh=>(zu H2).no ((zu FIT).1 hh).2.1))
  clear FIT T
  go_wp2
  go_ret
  exact⟨by rw[zu F];rfl,(zu S3).b⟩
 obtain⟨c0,c1,c2,c3,c4,c5⟩:=(zu S3).c
 go_wp2_with fail
 refine(iPaper _ x y3 b3 (zu S3).r (zu LI) (zu H3)).mono ?_
 rintro e w3 ⟨rfl,bb⟩
 have S4:=zh ((zu S3).step bb)
 replace f5:w3.cell? ⟨w.heap.size+1,5,none⟩=some (.int .i64 y5):=(bb.cell (p:=⟨w.heap.size+1,5,none⟩) z2).trans f5
 clear bb c0 c1 c2 c3 c4 c5 f2 f3
 cases b3
 ·have F:=zh ((zu T).not (fun hh=>(zu H3).no ((zu FIT).1 hh).2.2.1))
  clear FIT T
  go_wp2
  go_ret
  exact⟨by rw[zu F];rfl,(zu S4).b⟩
 obtain⟨c0,c1,c2,c3,c4,c5⟩:=(zu S4).c
 go_wp2_with fail
 refine(iCash _ x y5 b4 (zu S4).r (zu LI) (zu H4)).mono ?_
 rintro e w4 ⟨rfl,bb⟩
 have S5:=zh ((zu S4).step bb)
 clear bb c0 c1 c2 c3 c4 c5
 have G:=zh (show b=b4 from by
  cases b4
  ·exact(zu T).not (fun hh=>(zu H4).no ((zu FIT).1 hh).2.2.2)
  ·exact(zu T).of ((zu FIT).2 ⟨(zu H1).yes,(zu H2).yes,(zu H3).yes,(zu H4).yes⟩))
 clear FIT T
 go_wp2
 go_ret
 exact⟨by rw[zu G];rfl,(zu S5).b⟩
noncomputable def unfitB (b:Bk) (t:T8):Bool:= @decide (¬TradeFit b t) (Classical.propDecidable _)
theorem unfit_says(b:Bk)(t:T8):Says (!(unfitB b t)) (TradeFit b t):=by
 unfold unfitB
 by_cases h:TradeFit b t
 ·rw[@decide_eq_false _ (Classical.propDecidable _) (fun n:¬TradeFit b t=>n h)]
  exact⟨fun _=>h,fun _=>rfl⟩
 ·rw[@decide_eq_true _ (Classical.propDecidable _) h]
  exact⟨fun e=>Bool.noConfusion e,fun e=>absurd e h⟩
theorem iUnfit(w:World)(x:Bx)(g:Nat)(y:T8)(h:Rd w x)(hgs:g<w.heap.size)(hc:Cl w g x)(ha:Chart.Right 20 4 x.b.ac)(hi:Chart.Right 8 2 x.b.ic):
  Calls Tryz.prog 191 (#[.agg #[.int .i64 y.1,.int .i64 y.2.1,.int .i64 y.2.2.1,.int .i64 y.2.2.2.1,.int .i64 y.2.2.2.2.1,.int .i64 y.2.2.2.2.2.1,.int .i64 y.2.2.2.2.2.2.1,.int .i64 y.2.2.2.2.2.2.2]]++ #[.pointer (some ⟨g,0,none⟩)]) w fun e w'=>e= .returned (.bool (unfitB x.b y))∧Below w.heap.size w w':=by
 obtain⟨y0,y1,y2,y3,y4,y5,y6,y7⟩:=y
 show Calls Tryz.prog 191 #[.agg #[.int .i64 y0,.int .i64 y1,.int .i64 y2,.int .i64 y3,.int .i64 y4,.int .i64 y5,.int .i64 y6,.int .i64 y7],.pointer (some ⟨g,0,none⟩)] w _
 have T:=zh (unfit_says x.b (y0,y1,y2,y3,y4,y5,y6,y7))
 generalize unfitB x.b (y0,y1,y2,y3,y4,y5,y6,y7)=b at *
 have B0:=zh (one_more w (.cells #[.int .i64 y0,.int .i64 y1,.int .i64 y2,.int .i64 y3,.int .i64 y4,.int .i64 y5,.int .i64 y6,.int .i64 y7] 136))
 have H:=zh (h.below (zu B0))
 have LA:=zh ha
 have LI:=zh hi
 obtain⟨c0,c1,c2,c3,c4,c5⟩:=hc.below (zu B0) hgs
 clear h ha hi
 go_enter Tryz.func191,Tryz.ntmps191
 go_wp2_with fail
 refine(iTradeFits _ x y0 y1 y2 y3 y4 y5 y6 y7 (!b) (zu H) (zu LA) (zu LI) (zu T)).mono ?_
 rintro e w1 ⟨rfl,b1⟩
 have B1:=zh (next (zu B0) b1)
 clear b1
 go_wp2
 go_ret
 exact⟨by simp,zu B1⟩
theorem iTradesFit(w:World)(x:Bx)(b:Bool)(h:Rd w x)(hl:Lists x.b)(hb:Says b (TradesFit x.b)):
  Calls Tryz.prog 165 #[.agg #[.slice (some ⟨x.ga,0,none⟩) x.b.ac.length x.ca,.slice (some ⟨x.gi,0,none⟩) x.b.ic.length x.ci,.slice (some ⟨x.gb,0,none⟩) x.b.bs.length x.cb,.slice (some ⟨x.gl,0,none⟩) x.b.ls.length x.cl,.slice (some ⟨x.gt,0,none⟩) x.b.ts.length x.ct,.int .i64 x.b.lot]] w fun e w'=>e= .returned (.bool b)∧Below w.heap.size w w':=by
 have T:=zh (show Says (!b) (∃t∈x.b.ts,unfitB x.b t=true) from by
  cases b
  ·refine⟨fun _=>?_,fun _=>rfl⟩
   have:=hb.no
   refine Classical.byContradiction fun hn=>this fun k hk=>?_
   refine(unfit_says x.b (el8 x.b.ts k)).1 ?_
   cases e:unfitB x.b (el8 x.b.ts k)
   ·rfl
   ·exact absurd ⟨_,Tup8.getD_mem hk,e⟩ hn
  ·refine⟨fun e=>Bool.noConfusion e,fun⟨t,ht,e⟩=>?_⟩
   obtain⟨k,hk,rfl⟩:=Tup8.mem_getD ht
   have:=(unfit_says x.b (el8 x.b.ts k)).2 (hb.yes k hk)
   rw[e] at this
   cases this)
 have LA:=zh hl.1
 have LI:=zh hl.2.1
 have S0:=zh (St.start h 44)
 have nt:=h.nt
 have lt:=h.lt
 clear hb hl h
 go_enter Tryz.func165,Tryz.ntmps165
 go_wp2_with fail
 refine(iContainsF8 _ x.gt _ x.ct 191 #[.pointer (some ⟨w.heap.size,0,none⟩)] x.b.ts (unfitB x.b) (!b) rfl nt (by simp;omega) (zu S0).r.rt (fun _ _=>enters Tryz.func191 (by kernel_rfl) rfl _ _) (fun u y bu=>iUnfit u x w.heap.size y ((zu S0).r.below bu) (Nat.lt_of_lt_of_le (zu S0).s bu.size) ((zu S0).c.below bu (by simp)) (zu LA) (zu LI)) (zu T)).mono ?_
 rintro e w1 ⟨rfl,b1⟩
 have B1:=zh ((zu S0).step b1).b
 clear b1
 go_wp2
 go_ret
 exact⟨by simp,zu B1⟩
end ITradesFit
end Go.Proofs.YtppkkmaoaiopaaaGreat
