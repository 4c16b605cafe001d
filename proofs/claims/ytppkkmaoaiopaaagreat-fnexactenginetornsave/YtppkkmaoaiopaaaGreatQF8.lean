/- Lemmas. -/
import Derived.Test.YtppkkmaoaiopaaaGreatQF7
import Derived.Sort.Grow
open Go.ChangeShapes Go.WideShapes Go.ChangeAt Go.RowKit
set_option linter.unusedVariables false
set_option linter.unusedSimpArgs false
set_option maxRecDepth 100000
set_option maxHeartbeats 32000000
namespace Go.Proofs.YtppkkmaoaiopaaaGreat
namespace Cmp
open Bals Triples
def cmpI(x y:Int):Int:=if x<y then-1 else if y<x then 1 else 0
theorem isNaN(x:Int)(w:World):Calls Tryz.prog 245 #[.int .i64 x] w fun e w'=>e= .returned (.bool false)∧w'=w:=by
 go_enter Tryz.func245,Tryz.ntmps245
 go_wp2
 go_ret
 exact⟨rfl,rfl⟩
theorem compare1(x y:Int)(w:World):Calls Tryz.prog 237 #[.int .i64 x,.int .i64 y] w fun e w'=>e= .returned (.int .i64 (cmpI x y))∧w'=w:=by
 unfold cmpI
 by_cases h:x<y
 ·go_enter Tryz.func237,Tryz.ntmps237
  go_wp2_with (go_at_call 245;refine(isNaN _ _).mono ?_;rintro e w1 ⟨rfl,rfl⟩)
  go_ret
  exact⟨by simp[h],rfl⟩
 ·by_cases k:y<x
  ·go_enter Tryz.func237,Tryz.ntmps237
   go_wp2_with (go_at_call 245;refine(isNaN _ _).mono ?_;rintro e w1 ⟨rfl,rfl⟩)
   go_ret
   exact⟨by simp[h,k],rfl⟩
  ·go_enter Tryz.func237,Tryz.ntmps237
   go_wp2_with (go_at_call 245;refine(isNaN _ _).mono ?_;rintro e w1 ⟨rfl,rfl⟩)
   go_ret
   exact⟨by simp[h,k],rfl⟩
def orI(x y:Int):Int:=if x=0 then y else x
theorem orL(g:Nat)(x y:Int)(w:World)(h0:w.cell? ⟨g,0,none⟩=some (.int .i64 x))(h1:w.cell? ⟨g,1,none⟩=some (.int .i64 y)):
  Calls Tryz.prog 236 #[.slice (some ⟨g,0,none⟩) 2 2] w fun e w'=>e= .returned (.int .i64 (orI x y))∧w'=w:=by
 unfold orI
 go_enter Tryz.func236,Tryz.ntmps236
 go_wp2
 go_loop [5,8] (fun _ i=>∃(k:Nat),i= .int .i64 k∧(k=0∨(k=1∧x=0)∨(k=2∧x=0∧y=0))) (fun _ i=>2-(intOf i).toNat)
 case atStart=>exact⟨0,rfl,.inl rfl⟩
 case round=>
  obtain⟨k,rfl,hk⟩:=hrel
  rcases hk with rfl|⟨rfl,rfl⟩|⟨rfl,rfl,rfl⟩
  ·by_cases z:x=0
   ·subst z
    go_wp2
    go_round
    case rel=>exact⟨1,by go_num,.inr (.inl ⟨rfl,by trivial⟩)⟩
    case measure=>simp[intOf]
   ·go_wp2
    go_ret
    exact⟨by simp[z],rfl⟩
  ·by_cases z:y=0
   ·subst z
    go_wp2
    go_round
    case rel=>exact⟨2,by go_num,.inr (.inr ⟨rfl,by trivial,by trivial⟩)⟩
    case measure=>simp[intOf]
   ·go_wp2
    go_ret
    exact⟨by simp,rfl⟩
  ·go_wp2
   go_ret
   exact⟨by simp,rfl⟩
def cmpK(a i b j:Int):Int:=orI (cmpI a b) (cmpI i j)
theorem cmpK_lt(a i b j:Int):cmpK a i b j<0↔(a<b∨(a=b∧i<j)):=by
 unfold cmpK orI cmpI
 repeat(first|split|omega)
theorem cmpK_le(a i b j:Int):cmpK a i b j≤0↔¬(b<a∨(b=a∧j<i)):=by
 unfold cmpK orI cmpI
 repeat(first|split|omega)
theorem grow_below(w:World)(q:Nat)(os:Array Obj):Below w.heap.size w (Go.Sort.grow (w.drewN q) os):=
 ⟨rfl,rfl,rfl,by simp[Go.Sort.grow,World.drewN],fun k hk=>by
  show(w.heap++os)[k]?=w.heap[k]?
  rw[Array.getElem?_append_left hk]⟩
theorem compareG(a i b j:Int)(w:World):Calls Tryz.prog 213 #[.agg #[.int .i64 a,.int .i64 i],.agg #[.int .i64 b,.int .i64 j]] w fun e w'=>e= .returned (.int .i64 (cmpK a i b j))∧∃q os,w'=Go.Sort.grow (w.drewN q) os:=by
 unfold cmpK
 go_enter Tryz.func213,Tryz.ntmps213
 go_wp2_with fail
 have hu:∃os,(w.alloc (.cells #[.int .i64 a,.int .i64 i] 209)).alloc (.cells #[.int .i64 b,.int .i64 j] 209)=Go.Sort.grow w os:=⟨_,by rw[Go.Sort.alloc_eq_grow,Go.Sort.alloc_eq_grow,Go.Sort.grow_grow]⟩
 have c0:((w.alloc (.cells #[.int .i64 a,.int .i64 i] 209)).alloc (.cells #[.int .i64 b,.int .i64 j] 209)).cell? ⟨w.heap.size,0,none⟩=some (.int .i64 a):=by simp
 have c1:((w.alloc (.cells #[.int .i64 a,.int .i64 i] 209)).alloc (.cells #[.int .i64 b,.int .i64 j] 209)).cell? ⟨w.heap.size,1,none⟩=some (.int .i64 i):=by simp
 have c2:((w.alloc (.cells #[.int .i64 a,.int .i64 i] 209)).alloc (.cells #[.int .i64 b,.int .i64 j] 209)).cell? ⟨w.heap.size+1,0,none⟩=some (.int .i64 b):=by simp
 have c3:((w.alloc (.cells #[.int .i64 a,.int .i64 i] 209)).alloc (.cells #[.int .i64 b,.int .i64 j] 209)).cell? ⟨w.heap.size+1,1,none⟩=some (.int .i64 j):=by simp
 have HU:=zh hu
 clear hu
 generalize (w.alloc (.cells #[.int .i64 a,.int .i64 i] 209)).alloc (.cells #[.int .i64 b,.int .i64 j] 209)=u at *
 generalize w.heap.size+1=h1 at *
 generalize w.heap.size=h0 at *
 go_region_held3 (fun w'=>w'.cell? ⟨h0,0,none⟩=some (.int .i64 a)∧w'.cell? ⟨h0,1,none⟩=some (.int .i64 i)∧w'.cell? ⟨h1,0,none⟩=some (.int .i64 b)∧w'.cell? ⟨h1,1,none⟩=some (.int .i64 j)) (go_keep)
  (first|(go_at_call 237;refine(compare1 _ _ _).mono ?_;rintro e w1 ⟨rfl,rfl⟩)|(go_at_call 236;refine(orL u.heap.size (cmpI a b) (cmpI i j) _ ?_ ?_).mono ?_;(simp);(simp);rintro e w1 ⟨rfl,rfl⟩))
 all_goals(go_wp2;go_ret)
 all_goals(obtain⟨os,rfl⟩:=zu HU;exact⟨rfl,1,_,by rw[Go.Sort.alloc_eq_grow];exact Go.Sort.grow_grow (w.drewN 1) _ _⟩)
theorem compareK(a i b j:Int)(w:World):Calls Tryz.prog 213 #[.agg #[.int .i64 a,.int .i64 i],.agg #[.int .i64 b,.int .i64 j]] w fun e w'=>e= .returned (.int .i64 (cmpK a i b j))∧Below w.heap.size w w':=
 (compareG a i b j w).mono fun _ _ ⟨he,q,os,hw⟩=>⟨he,by rw[hw];exact grow_below w q os⟩
theorem keyOk(a i:Int)(b:Bool)(w:World)(h:Says b (NoOk a∧NoOk i)):Calls Tryz.prog 212 #[.agg #[.int .i64 a,.int .i64 i]] w fun e w'=>e= .returned (.bool b)∧Below w.heap.size w w':=by
 have hb:Below w.heap.size w (w.alloc (.cells #[.int .i64 a,.int .i64 i] 209)):=(Below.refl _ _).alloc (Nat.le_refl _) _
 by_cases c1:1≤a
 ·by_cases c2:a≤1000
  ·by_cases c3:1≤i
   ·by_cases c4:i≤1000
    ·obtain rfl:b=true:=h.of ⟨⟨c1,c2⟩,c3,c4⟩
     clear h
     go_enter Tryz.func212,Tryz.ntmps212
     go_wp2
     go_ret
     exact⟨rfl,hb⟩
    ·obtain rfl:b=false:=h.not (fun r=>by unfold NoOk at r;omega)
     clear h
     go_enter Tryz.func212,Tryz.ntmps212
     go_wp2
     go_ret
     exact⟨rfl,hb⟩
   ·obtain rfl:b=false:=h.not (fun r=>by unfold NoOk at r;omega)
    clear h
    go_enter Tryz.func212,Tryz.ntmps212
    go_wp2
    go_ret
    exact⟨rfl,hb⟩
  ·obtain rfl:b=false:=h.not (fun r=>by unfold NoOk at r;omega)
   clear h
   go_enter Tryz.func212,Tryz.ntmps212
   go_wp2
   go_ret
   exact⟨rfl,hb⟩
 ·obtain rfl:b=false:=h.not (fun r=>by unfold NoOk at r;omega)
  clear h
  go_enter Tryz.func212,Tryz.ntmps212
  go_wp2
  go_ret
  exact⟨rfl,hb⟩
theorem iAmt(x:Int)(b:Bool)(w:World)(h:Says b (Amt x)):Calls Tryz.prog 214 #[.int .i64 x] w fun e w'=>e= .returned (.bool b)∧w'=w:=by
 by_cases c1: -1000000000000000≤x
 ·by_cases c2:x≤1000000000000000
  ·obtain rfl:b=true:=h.of ⟨c1,c2⟩
   clear h
   go_enter Tryz.func214,Tryz.ntmps214
   go_wp2
   go_ret
   exact⟨rfl,rfl⟩
  ·obtain rfl:b=false:=h.not (fun r=>by unfold Amt at r;omega)
   clear h
   go_enter Tryz.func214,Tryz.ntmps214
   go_wp2
   go_ret
   exact⟨rfl,rfl⟩
 ·obtain rfl:b=false:=h.not (fun r=>by unfold Amt at r;omega)
  clear h
  go_enter Tryz.func214,Tryz.ntmps214
  go_wp2
  go_ret
  exact⟨rfl,rfl⟩
end Cmp
namespace IOk3
open Bals Triples Cmp
def ahead(ps:List T3)(k:Nat):Int×Int:=if k=0 then(0,0) else((el3 ps (k-1)).1,(el3 ps (k-1)).2.1)
theorem ahead_next(ps:List T3)(k:Nat):ahead ps (k+1)=((el3 ps k).1,(el3 ps k).2.1):=by unfold ahead;rw[if_neg (by omega)];rfl
theorem row_iff(ps:List T3)(k:Nat):RowOk ps k↔(NoOk (el3 ps k).1∧NoOk (el3 ps k).2.1)∧((ahead ps k).1<(el3 ps k).1∨((ahead ps k).1=(el3 ps k).1∧(ahead ps k).2<(el3 ps k).2.1))∧Amt (el3 ps k).2.2∧(el3 ps k).2.2≠0:=by
 unfold RowOk ahead
 by_cases k0:k=0
 ·subst k0
  rw[if_pos rfl]
  constructor
  ·rintro⟨a,b,c,d,_⟩
   exact⟨⟨a,b⟩,by unfold NoOk at a;simp only;omega,c,d⟩
  ·rintro⟨⟨a,b⟩,_,c,d⟩
   exact⟨a,b,c,d,fun h=>by omega⟩
 ·rw[if_neg k0]
  constructor
  ·rintro⟨a,b,c,d,e⟩
   exact⟨⟨a,b⟩,e (by omega),c,d⟩
  ·rintro⟨⟨a,b⟩,e,c,d⟩
   exact⟨a,b,c,d,fun h=>e⟩
theorem iOk(w:World)(g n cap:Nat)(ps:List T3)(ok:Bool)(hl:ps.length=n)(h20:n≤1048576)(hg:g<w.heap.size)(h:At3 w g ps)(hok:Says ok (Right ps)):
  Calls Tryz.prog 180 #[.slice (some ⟨g,0,none⟩) n cap] w fun e w'=>e= .returned (.bool ok)∧Below w.heap.size w w':=by
 by_cases nn:(160:Int)<(n:Int)
 ·obtain rfl:ok=false:=hok.not (fun r=>by have:=r.1;omega)
  clear hok h
  go_enter Tryz.func180,Tryz.ntmps180
  go_wp2
  go_ret
  exact⟨rfl,Below.refl _ _⟩
 have H:=zh h
 clear h
 go_enter Tryz.func180,Tryz.ntmps180
 go_wp2
 go_loopw [5,6,13] (fun _ _ i wr=>∃(k:Nat) (bf:Int×Int),k≤n∧i= .int .i64 k∧Hid (ahead ps k=bf)∧Below w.heap.size w wr∧Pairs.Own 209 wr w.heap.size w.heap.size 1 1 [bf]∧Hid (∀i,i<k→RowOk ps i)) (fun _ _ i _=>n-(intOf i).toNat)
 case atStart=>
  exact⟨0,(0,0),by omega,rfl,zh rfl,(Below.refl _ _).alloc (Nat.le_refl _) _,World.ownsRow_lit w #[.int .i64 0,.int .i64 0] 1 (Nat.le_refl _) (by decide) rfl,zh (fun i hi=>absurd hi (by omega))⟩
 case round=>
  obtain⟨k,⟨p,q⟩,hk,rfl,HP,hb,ho,HG⟩:=hrel
  by_cases t:k<n
  ·have hA:=(zu H).below hb hg
   obtain⟨e1,e2,e3⟩:=hA k (by omega)
   have gs:w.heap.size<wr.heap.size:=ho.lt.2
   clear hA
   have HB:=zh hb
   clear hb
   have HO:=zh ho
   clear ho
   have ROW:=zh (row_iff ps k)
   rw[zu HP] at ROW
   obtain⟨b1,B1⟩:=says_of (NoOk (el3 ps k).1∧NoOk (el3 ps k).2.1)
   obtain⟨b3,B3⟩:=says_of (Amt (el3 ps k).2.2)
   have AN:=zh (ahead_next ps k)
   have BAD:=zh (show ¬RowOk ps k→ok=false from fun hr=>hok.not (fun r=>hr (r.2 k (by omega))))
   have GOOD:=zh (show RowOk ps k→∀i,i<k+1→RowOk ps i from fun hr i hi=>by
    by_cases e:i=k
    ·subst e;exact hr
    ·exact(zu HG) i (by omega))
   generalize (el3 ps k).1=x at *
   generalize (el3 ps k).2.1=y at *
   generalize (el3 ps k).2.2=z at *
   go_wp2_with fail
   refine(keyOk x y b1 _ B1).mono ?_
   rintro e w1 ⟨rfl,n1⟩
   have s1:=n1.size
   have n2:Below wr.heap.size wr ((wr.alloc (.cells #[.int .i64 x,.int .i64 y,.int .i64 z] 132)).alloc (.cells #[.int .i64 x,.int .i64 y] 209)):=((Below.refl _ _).alloc (Nat.le_refl _) _).alloc (by simp) _
   have nb:=next n2 n1
   have f0:w1.cell? ⟨wr.heap.size+1,0,none⟩=some (.int .i64 x):=(n1.cell (p:=⟨wr.heap.size+1,0,none⟩) (by simp)).trans (by simp)
   have f1:w1.cell? ⟨wr.heap.size+1,1,none⟩=some (.int .i64 y):=(n1.cell (p:=⟨wr.heap.size+1,1,none⟩) (by simp)).trans (by simp)
   have f2:w1.cell? ⟨wr.heap.size,2,none⟩=some (.int .i64 z):=(n1.cell (p:=⟨wr.heap.size,2,none⟩) (by simp;omega)).trans (by simp)
   have NB:=zh nb
   have O1:=zh ((zu HO).below nb (zu HO).lt.2)
   simp only[World.size_alloc] at s1
   clear n1 n2 nb e1 e2 e3
   cases b1
   ·have OKF:=zh ((zu BAD) (fun hr=>B1.no ((zu ROW).1 hr).1))
    clear BAD GOOD ROW
    go_wp2
    go_ret
    exact⟨by rw[zu OKF];rfl,next (zu HB) (zu NB)⟩
   obtain⟨o0,o1⟩:=(zu O1).at 0 (by simp)
   have o0:w1.cell? ⟨w.heap.size,0,none⟩=some (.int .i64 p):=o0
   have o1:w1.cell? ⟨w.heap.size,1,none⟩=some (.int .i64 q):=o1
   go_wp2_with fail
   refine(compareK x y p q _).mono ?_
   rintro e w2 ⟨rfl,n2⟩
   have s2:=n2.size
   have f0:=(n2.cell (p:=⟨wr.heap.size+1,0,none⟩) (show wr.heap.size+1<_ by omega)).trans f0
   have f1:=(n2.cell (p:=⟨wr.heap.size+1,1,none⟩) (show wr.heap.size+1<_ by omega)).trans f1
   have f2:=(n2.cell (p:=⟨wr.heap.size,2,none⟩) (show wr.heap.size<_ by omega)).trans f2
   have O2:=zh ((zu O1).below n2 (zu O1).lt.2)
   have NB2:=zh (next (zu NB) n2)
   have CLE:=zh (cmpK_le x y p q)
   generalize cmpK x y p q=c at *
   clear n2 o0 o1
   by_cases c0:c≤0
   ·have OKF:=zh ((zu BAD) (fun hr=>(zu CLE).1 c0 ((zu ROW).1 hr).2.1))
    clear BAD GOOD ROW CLE
    go_wp2
    go_ret
    exact⟨by rw[zu OKF];rfl,next (zu HB) (zu NB2)⟩
   go_wp2_with fail
   refine(iAmt z b3 _ B3).mono ?_
   rintro e w3 ⟨rfl,rfl⟩
   cases b3
   ·have OKF:=zh ((zu BAD) (fun hr=>B3.no ((zu ROW).1 hr).2.2.1))
    clear BAD GOOD ROW CLE
    go_wp2
    go_ret
    exact⟨by rw[zu OKF];rfl,next (zu HB) (zu NB2)⟩
   by_cases z0:z=0
   ·have OKF:=zh ((zu BAD) (fun hr=>((zu ROW).1 hr).2.2.2 z0))
    clear BAD GOOD ROW CLE
    subst z0
    go_wp2
    go_ret
    exact⟨by rw[zu OKF];rfl,next (zu HB) (zu NB2)⟩
   have zb:(z==0)=false:=by simpa using z0
   have GO:=zh ((zu GOOD) ((zu ROW).2 ⟨B1.yes,Classical.byContradiction (fun h=>by have:=(zu CLE).2 h;omega),B3.yes,z0⟩))
   clear BAD GOOD ROW CLE
   have S0:=(zu O2).set0 0 x
   have S1:=S0.1.set1 0 y
   obtain⟨d0,d1⟩:=(zu O2).at 0 (by simp)
   have d0:w3.cell? ⟨w.heap.size,0,none⟩=some (.int .i64 p):=d0
   have d1:w3.cell? ⟨w.heap.size,1,none⟩=some (.int .i64 q):=d1
   have r0:w3.frozen? ⟨w.heap.size,0,none⟩=false:=(zu O2).free 0
   have r1:w3.frozen? ⟨w.heap.size,1,none⟩=false:=(zu O2).free 1
   have HS:=zh S1.1
   have BB:=zh (((next (zu HB) (zu NB2)).setCell (p:=⟨w.heap.size,0,none⟩) (Nat.le_refl _) (.int .i64 x)).setCell (p:=⟨w.heap.size,1,none⟩) (Nat.le_refl _) (.int .i64 y))
   clear S0 S1
   go_wp2
   go_roundw
   case rel=>exact⟨k+1,(x,y),by omega,by go_num,AN,zu BB,zu HS,GO⟩
   case measure=>simp[intOf];omega
  ·obtain rfl:k=n:=by omega
   obtain rfl:ok=true:=hok.of ⟨by omega,by rw[hl];exact zu HG⟩
   have HB:=zh hb
   clear hb hok ho
   go_wp2
   go_ret
   exact⟨rfl,zu HB⟩
end IOk3
namespace CmpL
open Tup5 Lots Takes
def cmpI(x y:Int):Int:=if x<y then-1 else if y<x then 1 else 0
theorem isNaN(x:Int)(w:World):Calls Tryz.prog 245 #[.int .i64 x] w fun e w'=>e= .returned (.bool false)∧w'=w:=by
 go_enter Tryz.func245,Tryz.ntmps245
 go_wp2
 go_ret
 exact⟨rfl,rfl⟩
theorem compare1(x y:Int)(w:World):Calls Tryz.prog 237 #[.int .i64 x,.int .i64 y] w fun e w'=>e= .returned (.int .i64 (cmpI x y))∧w'=w:=by
 unfold cmpI
 by_cases h:x<y
 ·go_enter Tryz.func237,Tryz.ntmps237
  go_wp2_with (go_at_call 245;refine(isNaN _ _).mono ?_;rintro e w1 ⟨rfl,rfl⟩)
  go_ret
  exact⟨by simp[h],rfl⟩
 ·by_cases k:y<x
  ·go_enter Tryz.func237,Tryz.ntmps237
   go_wp2_with (go_at_call 245;refine(isNaN _ _).mono ?_;rintro e w1 ⟨rfl,rfl⟩)
   go_ret
   exact⟨by simp[h,k],rfl⟩
  ·go_enter Tryz.func237,Tryz.ntmps237
   go_wp2_with (go_at_call 245;refine(isNaN _ _).mono ?_;rintro e w1 ⟨rfl,rfl⟩)
   go_ret
   exact⟨by simp[h,k],rfl⟩
def orI(x y:Int):Int:=if x=0 then y else x
theorem orL(g:Nat)(x y:Int)(w:World)(h0:w.cell? ⟨g,0,none⟩=some (.int .i64 x))(h1:w.cell? ⟨g,1,none⟩=some (.int .i64 y)):
  Calls Tryz.prog 236 #[.slice (some ⟨g,0,none⟩) 2 2] w fun e w'=>e= .returned (.int .i64 (orI x y))∧w'=w:=by
 unfold orI
 go_enter Tryz.func236,Tryz.ntmps236
 go_wp2
 go_loop [5,8] (fun _ i=>∃(k:Nat),i= .int .i64 k∧(k=0∨(k=1∧x=0)∨(k=2∧x=0∧y=0))) (fun _ i=>2-(intOf i).toNat)
 case atStart=>exact⟨0,rfl,.inl rfl⟩
 case round=>
  obtain⟨k,rfl,hk⟩:=hrel
  rcases hk with rfl|⟨rfl,rfl⟩|⟨rfl,rfl,rfl⟩
  ·by_cases z:x=0
   ·subst z
    go_wp2
    go_round
    case rel=>exact⟨1,by go_num,.inr (.inl ⟨rfl,by trivial⟩)⟩
    case measure=>simp[intOf]
   ·go_wp2
    go_ret
    exact⟨by simp[z],rfl⟩
  ·by_cases z:y=0
   ·subst z
    go_wp2
    go_round
    case rel=>exact⟨2,by go_num,.inr (.inr ⟨rfl,by trivial,by trivial⟩)⟩
    case measure=>simp[intOf]
   ·go_wp2
    go_ret
    exact⟨by simp,rfl⟩
  ·go_wp2
   go_ret
   exact⟨by simp,rfl⟩
def cmpK(a i b j:Int):Int:=orI (cmpI a b) (cmpI i j)
theorem grow_below(w:World)(q:Nat)(os:Array Obj):Below w.heap.size w (Go.Sort.grow (w.drewN q) os):=
 ⟨rfl,rfl,rfl,by simp[Go.Sort.grow,World.drewN],fun k hk=>by
  show(w.heap++os)[k]?=w.heap[k]?
  rw[Array.getElem?_append_left hk]⟩
theorem compareG(a i b j:Int)(w:World):Calls Tryz.prog 213 #[.agg #[.int .i64 a,.int .i64 i],.agg #[.int .i64 b,.int .i64 j]] w fun e w'=>e= .returned (.int .i64 (cmpK a i b j))∧∃q os,w'=Go.Sort.grow (w.drewN q) os:=by
 unfold cmpK
 go_enter Tryz.func213,Tryz.ntmps213
 go_wp2_with fail
 have hu:∃os,(w.alloc (.cells #[.int .i64 a,.int .i64 i] 209)).alloc (.cells #[.int .i64 b,.int .i64 j] 209)=Go.Sort.grow w os:=⟨_,by rw[Go.Sort.alloc_eq_grow,Go.Sort.alloc_eq_grow,Go.Sort.grow_grow]⟩
 have c0:((w.alloc (.cells #[.int .i64 a,.int .i64 i] 209)).alloc (.cells #[.int .i64 b,.int .i64 j] 209)).cell? ⟨w.heap.size,0,none⟩=some (.int .i64 a):=by simp
 have c1:((w.alloc (.cells #[.int .i64 a,.int .i64 i] 209)).alloc (.cells #[.int .i64 b,.int .i64 j] 209)).cell? ⟨w.heap.size,1,none⟩=some (.int .i64 i):=by simp
 have c2:((w.alloc (.cells #[.int .i64 a,.int .i64 i] 209)).alloc (.cells #[.int .i64 b,.int .i64 j] 209)).cell? ⟨w.heap.size+1,0,none⟩=some (.int .i64 b):=by simp
 have c3:((w.alloc (.cells #[.int .i64 a,.int .i64 i] 209)).alloc (.cells #[.int .i64 b,.int .i64 j] 209)).cell? ⟨w.heap.size+1,1,none⟩=some (.int .i64 j):=by simp
 have HU:=zh hu
 clear hu
 generalize (w.alloc (.cells #[.int .i64 a,.int .i64 i] 209)).alloc (.cells #[.int .i64 b,.int .i64 j] 209)=u at *
 generalize w.heap.size+1=h1 at *
 generalize w.heap.size=h0 at *
 go_region_held3 (fun w'=>w'.cell? ⟨h0,0,none⟩=some (.int .i64 a)∧w'.cell? ⟨h0,1,none⟩=some (.int .i64 i)∧w'.cell? ⟨h1,0,none⟩=some (.int .i64 b)∧w'.cell? ⟨h1,1,none⟩=some (.int .i64 j)) (go_keep)
  (first|(go_at_call 237;refine(compare1 _ _ _).mono ?_;rintro e w1 ⟨rfl,rfl⟩)|(go_at_call 236;refine(orL u.heap.size (cmpI a b) (cmpI i j) _ ?_ ?_).mono ?_;(simp);(simp);rintro e w1 ⟨rfl,rfl⟩))
 all_goals(go_wp2;go_ret)
 all_goals(obtain⟨os,rfl⟩:=zu HU;exact⟨rfl,1,_,by rw[Go.Sort.alloc_eq_grow];exact Go.Sort.grow_grow (w.drewN 1) _ _⟩)
theorem compareK(a i b j:Int)(w:World):Calls Tryz.prog 213 #[.agg #[.int .i64 a,.int .i64 i],.agg #[.int .i64 b,.int .i64 j]] w fun e w'=>e= .returned (.int .i64 (cmpK a i b j))∧Below w.heap.size w w':=
 (compareG a i b j w).mono fun _ _ ⟨he,q,os,hw⟩=>⟨he,by rw[hw];exact grow_below w q os⟩
theorem keyOk(a i:Int)(b:Bool)(w:World)(h:Says b (NoOk a∧NoOk i)):Calls Tryz.prog 212 #[.agg #[.int .i64 a,.int .i64 i]] w fun e w'=>e= .returned (.bool b)∧Below w.heap.size w w':=by
 have hb:Below w.heap.size w (w.alloc (.cells #[.int .i64 a,.int .i64 i] 209)):=(Below.refl _ _).alloc (Nat.le_refl _) _
 by_cases c1:1≤a
 ·by_cases c2:a≤1000
  ·by_cases c3:1≤i
   ·by_cases c4:i≤1000
    ·obtain rfl:b=true:=h.of ⟨⟨c1,c2⟩,c3,c4⟩
     clear h
     go_enter Tryz.func212,Tryz.ntmps212
     go_wp2
     go_ret
     exact⟨rfl,hb⟩
    ·obtain rfl:b=false:=h.not (fun r=>by unfold NoOk at r;omega)
     clear h
     go_enter Tryz.func212,Tryz.ntmps212
     go_wp2
     go_ret
     exact⟨rfl,hb⟩
   ·obtain rfl:b=false:=h.not (fun r=>by unfold NoOk at r;omega)
    clear h
    go_enter Tryz.func212,Tryz.ntmps212
    go_wp2
    go_ret
    exact⟨rfl,hb⟩
  ·obtain rfl:b=false:=h.not (fun r=>by unfold NoOk at r;omega)
   clear h
   go_enter Tryz.func212,Tryz.ntmps212
   go_wp2
   go_ret
   exact⟨rfl,hb⟩
 ·obtain rfl:b=false:=h.not (fun r=>by unfold NoOk at r;omega)
  clear h
  go_enter Tryz.func212,Tryz.ntmps212
  go_wp2
  go_ret
  exact⟨rfl,hb⟩
theorem iAmt(x:Int)(b:Bool)(w:World)(h:Says b (Amt x)):Calls Tryz.prog 214 #[.int .i64 x] w fun e w'=>e= .returned (.bool b)∧w'=w:=by
 by_cases c1: -1000000000000000≤x
 ·by_cases c2:x≤1000000000000000
  ·obtain rfl:b=true:=h.of ⟨c1,c2⟩
   clear h
   go_enter Tryz.func214,Tryz.ntmps214
   go_wp2
   go_ret
   exact⟨rfl,rfl⟩
  ·obtain rfl:b=false:=h.not (fun r=>by unfold Amt at r;omega)
   clear h
   go_enter Tryz.func214,Tryz.ntmps214
   go_wp2
   go_ret
   exact⟨rfl,rfl⟩
 ·obtain rfl:b=false:=h.not (fun r=>by unfold Amt at r;omega)
  clear h
  go_enter Tryz.func214,Tryz.ntmps214
  go_wp2
  go_ret
  exact⟨rfl,rfl⟩
theorem eqKey(a i b j:Int)(w:World):(Op.equalIn 10000 209 (.agg #[.int .i64 a,.int .i64 i]) (.agg #[.int .i64 b,.int .i64 j])).run Tryz.prog w= .ok (a==b&&i==j) w:=by
 have u3:=Tryz.underlying3
 have a3:=Tryz.isAgg3
 have z3:=Tryz.sizeOf3
 have hS:Tryz.prog.underlying 209=some (.struct (Tryz.prog.fieldsOf 209)):=by kernel_rfl
 have hp:Tryz.prog.stoodInHeld 209=false:=by kernel_rfl
 rw[show(10000:Nat)=9999+1 from rfl,run_equalIn_agg w 9999 209 _ _ hS hp]
 simp only[Program.fieldsOf,Tryz.underlying209]
 go_simp
 by_cases h1:a=b<;>by_cases h2:i=j<;>simp[h1,h2]
theorem guardKey:Tryz.prog.eqGuardType Tryz.prog.depth 209=false:=by kernel_rfl
theorem keyL(x0 x1 x2 x3 x4:Int)(w:World):Calls Tryz.prog 188 #[.agg #[.int .i64 x0,.int .i64 x1,.int .i64 x2,.int .i64 x3,.int .i64 x4]] w fun e w'=>e= .returned (.agg #[.int .i64 x0,.int .i64 x1])∧Below w.heap.size w w':=by
 go_enter Tryz.func188,Tryz.ntmps188
 go_wp2
 refine bodyPost_ret (v:= .agg #[.int .i64 x0,.int .i64 x1]) (by simp[results,Tryz.results188,go_sem]) rfl ⟨rfl,by repeat(first|exact Below.refl _ _|refine Below.alloc ?_ (by simp;try omega) _)⟩
theorem at0{w:World}{g:Nat}{x0 x1 x2 x3 x4:Int}(h:Holds5 w g 0 (x0,x1,x2,x3,x4)):w.cell? ⟨g,0,none⟩=some (.int .i64 x0)∧w.cell? ⟨g,1,none⟩=some (.int .i64 x1)∧w.cell? ⟨g,2,none⟩=some (.int .i64 x2)∧w.cell? ⟨g,3,none⟩=some (.int .i64 x3)∧w.cell? ⟨g,4,none⟩=some (.int .i64 x4):=h
def cmpL(p q:T5):Int:=orI (cmpK p.1 p.2.1 q.1 q.2.1) (cmpI p.2.2.1 q.2.2.1)
theorem cmpL_le(p q:T5):cmpL p q≤0↔¬Bef q p:=by
 unfold cmpL cmpK orI cmpI Bef
 repeat(first|split|omega)
theorem compareLot(x0 x1 x2 x3 x4 y0 y1 y2 y3 y4:Int)(w:World):Calls Tryz.prog 216 #[.agg #[.int .i64 x0,.int .i64 x1,.int .i64 x2,.int .i64 x3,.int .i64 x4],.agg #[.int .i64 y0,.int .i64 y1,.int .i64 y2,.int .i64 y3,.int .i64 y4]] w fun e w'=>e= .returned (.int .i64 (cmpL (x0,x1,x2,x3,x4) (y0,y1,y2,y3,y4)))∧Below w.heap.size w w':=by
 unfold cmpL
 have X:=zh (show Holds5 ((w.alloc (.cells #[.int .i64 x0,.int .i64 x1,.int .i64 x2,.int .i64 x3,.int .i64 x4] 134)).alloc (.cells #[.int .i64 y0,.int .i64 y1,.int .i64 y2,.int .i64 y3,.int .i64 y4] 134)) w.heap.size 0 (x0,x1,x2,x3,x4) from by unfold Holds5;simp)
 have Y:=zh (show Holds5 ((w.alloc (.cells #[.int .i64 x0,.int .i64 x1,.int .i64 x2,.int .i64 x3,.int .i64 x4] 134)).alloc (.cells #[.int .i64 y0,.int .i64 y1,.int .i64 y2,.int .i64 y3,.int .i64 y4] 134)) (w.heap.size+1) 0 (y0,y1,y2,y3,y4) from by unfold Holds5;simp)
 have B:=zh (show Below w.heap.size w ((w.alloc (.cells #[.int .i64 x0,.int .i64 x1,.int .i64 x2,.int .i64 x3,.int .i64 x4] 134)).alloc (.cells #[.int .i64 y0,.int .i64 y1,.int .i64 y2,.int .i64 y3,.int .i64 y4] 134)) from((Below.refl _ _).alloc (Nat.le_refl _) _).alloc (by simp) _)
 have hx:w.heap.size<((w.alloc (.cells #[.int .i64 x0,.int .i64 x1,.int .i64 x2,.int .i64 x3,.int .i64 x4] 134)).alloc (.cells #[.int .i64 y0,.int .i64 y1,.int .i64 y2,.int .i64 y3,.int .i64 y4] 134)).heap.size:=by simp;omega
 have hy:w.heap.size+1<((w.alloc (.cells #[.int .i64 x0,.int .i64 x1,.int .i64 x2,.int .i64 x3,.int .i64 x4] 134)).alloc (.cells #[.int .i64 y0,.int .i64 y1,.int .i64 y2,.int .i64 y3,.int .i64 y4] 134)).heap.size:=by simp
 go_enter Tryz.func216,Tryz.ntmps216
 go_wp2_with fail
 generalize (w.alloc (.cells #[.int .i64 x0,.int .i64 x1,.int .i64 x2,.int .i64 x3,.int .i64 x4] 134)).alloc (.cells #[.int .i64 y0,.int .i64 y1,.int .i64 y2,.int .i64 y3,.int .i64 y4] 134)=u at *
 obtain⟨h1,H1⟩:∃h1,Hid (h1=w.heap.size+1):=⟨_,rfl⟩
 obtain⟨h0,H0⟩:∃h0,Hid (h0=w.heap.size):=⟨_,rfl⟩
 rw[←zu H1] at hy Y⊢
 rw[←zu H0] at hx X⊢
 obtain⟨c0,c1,c2,c3,c4⟩:=at0 (zu X)
 obtain⟨e0,e1,e2,e3,e4⟩:=at0 (zu Y)
 have bb:Below u.heap.size u u.drew:=(Below.refl _ _).drew
 go_region_held3 (fun w'=>w'.cell? ⟨h0,0,none⟩=some (.int .i64 x0)∧w'.cell? ⟨h0,1,none⟩=some (.int .i64 x1)∧w'.cell? ⟨h0,2,none⟩=some (.int .i64 x2)∧w'.cell? ⟨h0,3,none⟩=some (.int .i64 x3)∧w'.cell? ⟨h0,4,none⟩=some (.int .i64 x4)∧w'.cell? ⟨h1,0,none⟩=some (.int .i64 y0)∧w'.cell? ⟨h1,1,none⟩=some (.int .i64 y1)∧w'.cell? ⟨h1,2,none⟩=some (.int .i64 y2)∧w'.cell? ⟨h1,3,none⟩=some (.int .i64 y3)∧w'.cell? ⟨h1,4,none⟩=some (.int .i64 y4)) (go_keep)
  (first|(go_at_call 188;refine(keyL _ _ _ _ _ _).mono ?_;rintro e w1 ⟨rfl,n1⟩;replace bb:=next bb n1;obtain⟨c0,c1,c2,c3,c4⟩:=at0 ((zu X).below bb hx);obtain⟨e0,e1,e2,e3,e4⟩:=at0 ((zu Y).below bb hy);clear n1)|(go_at_call 213;refine(compareK _ _ _ _ _).mono ?_;rintro e w1 ⟨rfl,n1⟩;replace bb:=next bb n1;obtain⟨c0,c1,c2,c3,c4⟩:=at0 ((zu X).below bb hx);obtain⟨e0,e1,e2,e3,e4⟩:=at0 ((zu Y).below bb hy);clear n1)|(go_at_call 237;refine(compare1 _ _ _).mono ?_;rintro e w1 ⟨rfl,rfl⟩)|(go_at_call 236;refine(orL _ (cmpK x0 x1 y0 y1) (cmpI x2 y2) _ ?_ ?_).mono ?_;(simp);(simp);rintro e w1 ⟨rfl,rfl⟩))
 all_goals(go_wp2;go_ret)
 all_goals exact⟨rfl,(next (zu B) bb).alloc (next (zu B) bb).size _⟩
theorem lotOk(x0 x1 x2 x3 x4:Int)(b:Bool)(w:World)(hb:Says b (One (x0,x1,x2,x3,x4))):Calls Tryz.prog 215 #[.agg #[.int .i64 x0,.int .i64 x1,.int .i64 x2,.int .i64 x3,.int .i64 x4]] w fun e w'=>e= .returned (.bool b)∧Below w.heap.size w w':=by
 obtain⟨b1,B1⟩:=says_of (NoOk x0∧NoOk x1)
 have X:=zh (show Holds5 (w.alloc (.cells #[.int .i64 x0,.int .i64 x1,.int .i64 x2,.int .i64 x3,.int .i64 x4] 134)) w.heap.size 0 (x0,x1,x2,x3,x4) from by unfold Holds5;simp)
 have B:=zh (show Below w.heap.size w (w.alloc (.cells #[.int .i64 x0,.int .i64 x1,.int .i64 x2,.int .i64 x3,.int .i64 x4] 134)) from(Below.refl _ _).alloc (Nat.le_refl _) _)
 have hx:w.heap.size<(w.alloc (.cells #[.int .i64 x0,.int .i64 x1,.int .i64 x2,.int .i64 x3,.int .i64 x4] 134)).heap.size:=by simp
 go_enter Tryz.func215,Tryz.ntmps215
 go_wp2_with fail
 refine(keyL x0 x1 x2 x3 x4 _).mono ?_
 rintro e w1 ⟨rfl,n1⟩
 have X1:=zh ((zu X).below n1 hx)
 have hx1:w.heap.size<w1.heap.size:=Nat.lt_of_lt_of_le hx n1.size
 have N1:=zh (next (zu B) n1)
 clear X B hx n1
 go_wp2_with fail
 refine(keyOk x0 x1 b1 _ B1).mono ?_
 rintro e w2 ⟨rfl,n2⟩
 obtain⟨c0,c1,c2,c3,c4⟩:=at0 ((zu X1).below n2 hx1)
 have N2:=zh (next (zu N1) n2)
 clear X1 N1 n2
 cases b1
 ·obtain rfl:b=false:=hb.not (fun r=>B1.no ⟨r.1,r.2.1⟩)
  go_wp2
  go_ret
  exact⟨rfl,zu N2⟩
 by_cases t0:1≤x2
 rotate_left
 ·obtain rfl:b=false:=hb.not (fun r=>t0 r.2.2.1.1)
  clear hb
  go_wp2
  go_ret
  exact⟨rfl,zu N2⟩
 by_cases t1:x2≤1000000000
 rotate_left
 ·obtain rfl:b=false:=hb.not (fun r=>t1 r.2.2.1.2)
  clear hb
  go_wp2
  go_ret
  exact⟨rfl,zu N2⟩
 by_cases t2:1≤x3
 rotate_left
 ·obtain rfl:b=false:=hb.not (fun r=>t2 r.2.2.2.1.1)
  clear hb
  go_wp2
  go_ret
  exact⟨rfl,zu N2⟩
 by_cases t3:x3≤1000000000000000
 rotate_left
 ·obtain rfl:b=false:=hb.not (fun r=>t3 r.2.2.2.1.2)
  clear hb
  go_wp2
  go_ret
  exact⟨rfl,zu N2⟩
 by_cases t4:0≤x4
 rotate_left
 ·obtain rfl:b=false:=hb.not (fun r=>t4 r.2.2.2.2.1)
  clear hb
  go_wp2
  go_ret
  exact⟨rfl,zu N2⟩
 by_cases t5:x4≤1000000000000000
 rotate_left
 ·obtain rfl:b=false:=hb.not (fun r=>t5 r.2.2.2.2.2)
  clear hb
  go_wp2
  go_ret
  exact⟨by rw[decide_eq_false (show ¬x4≤1000000000000000 by omega)];rfl,zu N2⟩
 obtain rfl:b=true:=hb.of ⟨B1.yes.1,B1.yes.2,⟨t0,t1⟩,⟨t2,t3⟩,t4,t5⟩
 clear hb
 go_wp2
 go_ret
 exact⟨rfl,zu N2⟩
end CmpL
namespace IOk5
open Tup5 Lots Takes CmpL Quieter
def ahead(ps:List T5)(k:Nat):T5:=if k=0 then(0,0,0,0,0) else el5 ps (k-1)
theorem ahead_next(ps:List T5)(k:Nat):ahead ps (k+1)=el5 ps k:=by unfold ahead;rw[if_neg (by omega)];rfl
theorem row_iff(ps:List T5)(k:Nat):RowOk ps k↔One (el5 ps k)∧Bef (ahead ps k) (el5 ps k):=by
 unfold RowOk ahead
 by_cases k0:k=0
 ·subst k0
  rw[if_pos rfl]
  constructor
  ·rintro⟨a,_⟩
   exact⟨a,by have:=a.1;unfold NoOk at this;unfold Bef;simp only;omega⟩
  ·rintro⟨a,_⟩
   exact⟨a,fun h=>by omega⟩
 ·rw[if_neg k0]
  exact⟨fun h=>⟨h.1,h.2 (by omega)⟩,fun h=>⟨h.1,fun _=>h.2⟩⟩
theorem own_drewN{e:TypeId}{w:World}{base g n cap:Nat}{ps:List T5}(h:Own5 e w base g n cap ps)(m:Nat):Own5 e (w.drewN m) base g n cap ps:=h
theorem holds_drewN{w:World}{g o:Nat}{p:T5}(h:Holds5 w g o p)(m:Nat):Holds5 (w.drewN m) g o p:=h
theorem store5{e:TypeId}{w:World}{base g:Nat}{p:T5}(h:Own5 e w base g 1 1 [p])(x0 x1 x2 x3 x4:Int):
  Own5 e (((((w.setCell ⟨g,0,none⟩ (.int .i64 x0)).setCell ⟨g,1,none⟩ (.int .i64 x1)).setCell ⟨g,2,none⟩ (.int .i64 x2)).setCell ⟨g,3,none⟩ (.int .i64 x3)).setCell ⟨g,4,none⟩ (.int .i64 x4)) base g 1 1 [(x0,x1,x2,x3,x4)]∧
   w.grownBy (((((w.setCell ⟨g,0,none⟩ (.int .i64 x0)).setCell ⟨g,1,none⟩ (.int .i64 x1)).setCell ⟨g,2,none⟩ (.int .i64 x2)).setCell ⟨g,3,none⟩ (.int .i64 x3)).setCell ⟨g,4,none⟩ (.int .i64 x4)) (some g):=by
 have s0:=h.set0 0 x0
 have s1:=s0.1.set1 0 x1
 have s2:=s1.1.set2 0 x2
 have s3:=s2.1.set3 0 x3
 have s4:=s3.1.set4 0 x4
 exact⟨s4.1,grown_trans (grown_trans (grown_trans (grown_trans s0.2 s1.2) s2.2) s3.2) s4.2⟩
theorem iOk(w:World)(g n cap:Nat)(ps:List T5)(ok:Bool)(hl:ps.length=n)(h20:n≤1048576)(hg:g<w.heap.size)(h:At5 w g ps)(hok:Says ok (Right ps)):
  Calls Tryz.prog 181 #[.slice (some ⟨g,0,none⟩) n cap] w fun e w'=>e= .returned (.bool ok)∧Below w.heap.size w w':=by
 by_cases nn:(120:Int)<(n:Int)
 ·obtain rfl:ok=false:=hok.not (fun r=>by have:=r.1;omega)
  clear hok h
  go_enter Tryz.func181,Tryz.ntmps181
  go_wp2
  go_ret
  exact⟨rfl,Below.refl _ _⟩
 have H:=zh h
 clear h
 have O0:=zh (show Own5 134 (w.alloc (.cells #[.int .i64 0,.int .i64 0,.int .i64 0,.int .i64 0,.int .i64 0] 134)) w.heap.size w.heap.size 1 1 [(0,0,0,0,0)] from lit51 134 w w.heap.size 0 0 0 0 0 (Nat.le_refl _))
 go_enter Tryz.func181,Tryz.ntmps181
 go_wp2
 go_loopw [4,5,7,14] (fun q c _ i wr=>∃(k:Nat) (sq sc:Int) (bf:T5),k≤n∧i= .int .i64 k∧q= .int .i64 sq∧c= .int .i64 sc∧0≤sq∧sq≤1000000000000000∧0≤sc∧sc≤1000000000000000∧Hid (ahead ps k=bf)∧Below w.heap.size w wr∧Own5 134 wr w.heap.size w.heap.size 1 1 [bf]∧Hid (∀i,i<k→RowOk ps i∧(run ps i).1≤1000000000000000∧(run ps i).2≤1000000000000000)∧Hid (0<k→(sq,sc)=run ps (k-1))) (fun _ _ _ i _=>n-(intOf i).toNat)
 case atStart=>exact⟨0,0,0,(0,0,0,0,0),by omega,rfl,rfl,rfl,by omega,by omega,by omega,by omega,zh rfl,(Below.refl _ _).alloc (Nat.le_refl _) _,zu O0,zh (fun i hi=>absurd hi (by omega)),zh (fun h0=>absurd h0 (by omega))⟩
 case round=>
  clear O0
  obtain⟨k,sq,sc,⟨z0,z1,z2,z3,z4⟩,hk,rfl,rfl,rfl,sq0,sq1,sc0,sc1,HP,hb,ho,HG,HS⟩:=hrel
  by_cases t:k<n
  ·have hA:=(zu H).below hb hg
   obtain⟨e0,e1,e2,e3,e4⟩:=hA k (by omega)
   have gs:w.heap.size<wr.heap.size:=ho.lt.2
   clear hA
   have HB:=zh hb
   clear hb
   have HO:=zh ho
   clear ho
   have ROW:=zh (show RowOk ps k↔One ((el5 ps k).1,(el5 ps k).2.1,(el5 ps k).2.2.1,(el5 ps k).2.2.2.1,(el5 ps k).2.2.2.2)∧Bef (z0,z1,z2,z3,z4) ((el5 ps k).1,(el5 ps k).2.1,(el5 ps k).2.2.1,(el5 ps k).2.2.2.1,(el5 ps k).2.2.2.2) from by rw[row_iff,zu HP])
   have RUN:=zh (show RowOk ps k→run ps k=(if(el5 ps k).1≠z0∨(el5 ps k).2.1≠z1 then((el5 ps k).2.2.2.1,(el5 ps k).2.2.2.2) else(sq+(el5 ps k).2.2.2.1,sc+(el5 ps k).2.2.2.2)) from fun hr=>by
    rw[run_next (by omega) (fun i hi=>by
     by_cases e:i=k
     ·subst e;exact hr
     ·exact((zu HG) i (by omega)).1)]
    have hz:=zu HP
    unfold ahead at hz
    by_cases k0:k=0
    ·rw[if_pos k0] at hz
     have z00:z0=0:=by have:=congrArg Prod.fst hz;simpa using this.symm
     have one:=hr.1.1
     unfold NoOk at one
     rw[if_pos (.inl k0),if_pos (.inl (by omega))]
    ·rw[if_neg k0] at hz
     have h0:(el5 ps (k-1)).1=z0:=by rw[hz]
     have h1:(el5 ps (k-1)).2.1=z1:=by rw[hz]
     rw[h0,h1]
     by_cases c:(el5 ps k).1≠z0∨(el5 ps k).2.1≠z1
     ·rw[if_pos (.inr c),if_pos c]
     ·rw[if_neg (by omega),if_neg c,←(zu HS) (by omega)])
   have BAD:=zh (show ¬(RowOk ps k∧(run ps k).1≤1000000000000000∧(run ps k).2≤1000000000000000)→ok=false from fun hr=>hok.not (fun r=>hr ((right_iff ps (by omega)).1 r k (by omega))))
   have GOOD:=zh (show RowOk ps k∧(run ps k).1≤1000000000000000∧(run ps k).2≤1000000000000000→∀i,i<k+1→RowOk ps i∧(run ps i).1≤1000000000000000∧(run ps i).2≤1000000000000000 from fun hr i hi=>by
    by_cases e:i=k
    ·subst e;exact hr
    ·exact(zu HG) i (by omega))
   have AN:=zh (ahead_next ps k)
   obtain⟨rq,rc,RQ⟩:∃rq rc,Hid (run ps k=(rq,rc)):=⟨_,_,rfl⟩
   rw[zu RQ] at RUN BAD GOOD
   rw[show el5 ps k=((el5 ps k).1,(el5 ps k).2.1,(el5 ps k).2.2.1,(el5 ps k).2.2.2.1,(el5 ps k).2.2.2.2) from rfl] at AN
   clear HG HS HP
   generalize (el5 ps k).1=x0 at *
   generalize (el5 ps k).2.1=x1 at *
   generalize (el5 ps k).2.2.1=x2 at *
   generalize (el5 ps k).2.2.2.1=x3 at *
   generalize (el5 ps k).2.2.2.2=x4 at *
   obtain⟨b1,B1⟩:=says_of (One (x0,x1,x2,x3,x4))
   have ONE:=zh (show Below wr.heap.size wr (wr.alloc (.cells #[.int .i64 x0,.int .i64 x1,.int .i64 x2,.int .i64 x3,.int .i64 x4] 134)) from(Below.refl _ _).alloc (Nat.le_refl _) _)
   have X:=zh (show Holds5 (wr.alloc (.cells #[.int .i64 x0,.int .i64 x1,.int .i64 x2,.int .i64 x3,.int .i64 x4] 134)) wr.heap.size 0 (x0,x1,x2,x3,x4) from by unfold Holds5;simp)
   have hx:wr.heap.size<(wr.alloc (.cells #[.int .i64 x0,.int .i64 x1,.int .i64 x2,.int .i64 x3,.int .i64 x4] 134)).heap.size:=by simp
   have O1:=zh ((zu HO).alloc (.cells #[.int .i64 x0,.int .i64 x1,.int .i64 x2,.int .i64 x3,.int .i64 x4] 134))
   have BB:=zh (next (zu HB) (zu ONE))
   clear ONE HO
   go_wp2_with fail
   generalize wr.alloc (.cells #[.int .i64 x0,.int .i64 x1,.int .i64 x2,.int .i64 x3,.int .i64 x4] 134)=u at *
   generalize wr.heap.size=yb at *
   refine(lotOk x0 x1 x2 x3 x4 b1 _ B1).mono ?_
   rintro e w1 ⟨rfl,n1⟩
   have X:=zh ((zu X).below n1 hx)
   have O1:=zh ((zu O1).below n1 (zu O1).lt.2)
   have BB:=zh (next (zu BB) n1)
   have hx:=Nat.lt_of_lt_of_le hx n1.size
   clear n1 e0 e1 e2 e3 e4
   cases b1
   ·have OKF:=zh ((zu BAD) (fun hr=>B1.no ((zu ROW).1 hr.1).1))
    clear BAD GOOD ROW RUN
    go_wp2
    go_ret
    exact⟨by rw[zu OKF];rfl,zu BB⟩
   have o:=B1.yes
   obtain⟨_,_,_,⟨x3l,x3h⟩,x4l,x4h⟩:NoOk x0∧NoOk x1∧(1≤x2∧x2≤1000000000)∧(1≤x3∧x3≤1000000000000000)∧(0≤x4∧x4≤1000000000000000):=o
   obtain⟨c0,c1,c2,c3,c4⟩:=at0 (zu X)
   obtain⟨d0,d1,d2,d3,d4⟩:=at0 ((zu O1).at 0 (by simp))
   go_wp2_with fail
   refine(compareLot x0 x1 x2 x3 x4 z0 z1 z2 z3 z4 _).mono ?_
   rintro e w2 ⟨rfl,n2⟩
   have X:=zh ((zu X).below n2 hx)
   have O2:=zh ((zu O1).below n2 (zu O1).lt.2)
   have BB:=zh (next (zu BB) n2)
   have hx:=Nat.lt_of_lt_of_le hx n2.size
   clear n2 c0 c1 c2 c3 c4 d0 d1 d2 d3 d4 O1
   have CLE:=zh (cmpL_le (x0,x1,x2,x3,x4) (z0,z1,z2,z3,z4))
   generalize cmpL (x0,x1,x2,x3,x4) (z0,z1,z2,z3,z4)=c at *
   by_cases c9:c≤0
   ·have OKF:=zh ((zu BAD) (fun hr=>(zu CLE).1 c9 ((zu ROW).1 hr.1).2))
    clear BAD GOOD ROW RUN CLE
    go_wp2
    go_ret
    exact⟨by rw[zu OKF];rfl,zu BB⟩
   have RK:=zh ((zu ROW).2 ⟨B1.yes,Classical.byContradiction (fun h=>by have:=(zu CLE).2 h;omega)⟩)
   clear CLE
   obtain⟨c0,c1,c2,c3,c4⟩:=at0 (zu X)
   obtain⟨d0,d1,d2,d3,d4⟩:=at0 ((zu O2).at 0 (by simp))
   go_wp2_with fail
   have C0:∀n:Near w2,n.u.cell? ⟨yb,0,none⟩=some (.int .i64 x0):=fun n=>(n.b.cell (p:=⟨yb,0,none⟩) hx).trans c0
   have C1:∀n:Near w2,n.u.cell? ⟨yb,1,none⟩=some (.int .i64 x1):=fun n=>(n.b.cell (p:=⟨yb,1,none⟩) hx).trans c1
   have C2:∀n:Near w2,n.u.cell? ⟨yb,2,none⟩=some (.int .i64 x2):=fun n=>(n.b.cell (p:=⟨yb,2,none⟩) hx).trans c2
   have C3:∀n:Near w2,n.u.cell? ⟨yb,3,none⟩=some (.int .i64 x3):=fun n=>(n.b.cell (p:=⟨yb,3,none⟩) hx).trans c3
   have C4:∀n:Near w2,n.u.cell? ⟨yb,4,none⟩=some (.int .i64 x4):=fun n=>(n.b.cell (p:=⟨yb,4,none⟩) hx).trans c4
   have hz:=(zu O2).lt.2
   have D0:∀n:Near w2,n.u.cell? ⟨w.heap.size,0,none⟩=some (.int .i64 z0):=fun n=>(n.b.cell (p:=⟨w.heap.size,0,none⟩) hz).trans d0
   have D1:∀n:Near w2,n.u.cell? ⟨w.heap.size,1,none⟩=some (.int .i64 z1):=fun n=>(n.b.cell (p:=⟨w.heap.size,1,none⟩) hz).trans d1
   have D2:∀n:Near w2,n.u.cell? ⟨w.heap.size,2,none⟩=some (.int .i64 z2):=fun n=>(n.b.cell (p:=⟨w.heap.size,2,none⟩) hz).trans d2
   have D3:∀n:Near w2,n.u.cell? ⟨w.heap.size,3,none⟩=some (.int .i64 z3):=fun n=>(n.b.cell (p:=⟨w.heap.size,3,none⟩) hz).trans d3
   have D4:∀n:Near w2,n.u.cell? ⟨w.heap.size,4,none⟩=some (.int .i64 z4):=fun n=>(n.b.cell (p:=⟨w.heap.size,4,none⟩) hz).trans d4
   have near:=near_is w2
   have EQ:=eqKey x0 x1 z0 z1
   have GU:=guardKey
   by_cases same:x0=z0∧x1=z1
   ·obtain⟨rfl,rfl⟩:=same
    refine quiet_near (by kernel_rfl) (by kernel_rfl) ?_
    repeat(go_big_quiet_step (first
     |(go_at_call 188
       rename_i nn
       refine(keyL _ _ _ _ _ nn.u).mono ?_
       rintro e u6 ⟨rfl,b6⟩
       exact⟨rfl,⟨u6,next nn.b b6⟩,rfl⟩)))
    refine wpQuiet_nil ?_
    rintro u9 ⟨⟨_,b9⟩,rfl⟩
    have X:=zh ((zu X).below b9 hx)
    have O9:=zh ((zu O2).below b9 (zu O2).lt.2)
    have BB:=zh (next (zu BB) b9)
    clear b9 c0 c1 c2 c3 c4 d0 d1 d2 d3 d4 C0 C1 C2 C3 C4 D0 D1 D2 D3 D4 near EQ GU O2
    obtain⟨c0,c1,c2,c3,c4⟩:=at0 (zu X)
    obtain⟨d0,d1,d2,d3,d4⟩:=at0 ((zu O9).at 0 (by simp))
    obtain⟨b3,B3⟩:=says_of (Amt (sq+x3))
    obtain⟨b4,B4⟩:=says_of (Amt (sc+x4))
    have RE:=zh (show(rq,rc)=(sq+x3,sc+x4) from by rw[(zu RUN) (zu RK),if_neg (by omega)])
    have wS:IntKind.i64.wrap (sq+x3)=sq+x3:=by rw[IntKind.wrap_i64];omega
    have wT:IntKind.i64.wrap (sc+x4)=sc+x4:=by rw[IntKind.wrap_i64];omega
    go_wp2_with fail
    go_quiet (fail)
    have BB:=zh (below_drewN (zu BB) nq)
    have O9:=zh (own_drewN (zu O9) nq)
    have X:=zh (holds_drewN (zu X) nq)
    clear c0 c1 c2 c3 c4 d0 d1 d2 d3 d4
    generalize u9.drewN nq=u8 at *
    obtain⟨c0,c1,c2,c3,c4⟩:=at0 (zu X)
    obtain⟨d0,d1,d2,d3,d4⟩:=at0 ((zu O9).at 0 (by simp))
    go_wp2_with fail
    refine(iAmt (sq+x3) b3 _ B3).mono ?_
    rintro e w3 ⟨rfl,rfl⟩
    cases b3
    ·have OKF:=zh ((zu BAD) (fun hr=>B3.no (by have e:=congrArg Prod.fst (zu RE);have:=hr.2.1;unfold Amt;simp only at e;omega)))
     clear BAD GOOD ROW RUN RE
     go_wp2
     go_ret
     exact⟨by rw[zu OKF];rfl,zu BB⟩
    go_wp2_with fail
    refine(iAmt (sc+x4) b4 _ B4).mono ?_
    rintro e w4 ⟨rfl,rfl⟩
    cases b4
    ·have OKF:=zh ((zu BAD) (fun hr=>B4.no (by have e:=congrArg Prod.snd (zu RE);have:=hr.2.2;unfold Amt;simp only at e;omega)))
     clear BAD GOOD ROW RUN RE
     go_wp2
     go_ret
     exact⟨by rw[zu OKF];rfl,zu BB⟩
    have GO:=zh ((zu GOOD) ⟨zu RK,by have e:=congrArg Prod.fst (zu RE);have y:=B3.yes;unfold Amt at y;simp only at e;omega,by have e:=congrArg Prod.snd (zu RE);have y:=B4.yes;unfold Amt at y;simp only at e;omega⟩)
    have y3:=B3.yes.2
    have y4:=B4.yes.2
    have HS2:=zh (show 0<k+1→(sq+x3,sc+x4)=run ps (k+1-1) from fun _=>by rw[show k+1-1=k by omega,zu RQ];exact(zu RE).symm)
    have st:=store5 (zu O9) x0 x1 x2 x3 x4
    have r0:w4.frozen? ⟨w.heap.size,0,none⟩=false:=(zu O9).free 0
    have r1:w4.frozen? ⟨w.heap.size,1,none⟩=false:=(zu O9).free 1
    have r2:w4.frozen? ⟨w.heap.size,2,none⟩=false:=(zu O9).free 2
    have r3:w4.frozen? ⟨w.heap.size,3,none⟩=false:=(zu O9).free 3
    have r4:w4.frozen? ⟨w.heap.size,4,none⟩=false:=(zu O9).free 4
    have SO:=zh st.1
    have SB:=zh ((zu BB).grown st.2 (zu BB).size (fun j hj=>by cases hj;exact Nat.le_refl _))
    clear BAD GOOD ROW RUN HB st RE RQ BB
    go_wp2
    go_roundw
    case rel=>exact⟨k+1,sq+x3,sc+x4,(x0,x1,x2,x3,x4),by omega,by go_num,rfl,rfl,by omega,by omega,by omega,by omega,AN,zu SB,zu SO,GO,HS2⟩
    case measure=>simp[intOf];omega
   ·have ne:(x0==z0&&x1==z1)=false:=by
     rw[Bool.and_eq_false_iff,beq_eq_false_iff_ne,beq_eq_false_iff_ne]
     omega
    refine quiet_near (by kernel_rfl) (by kernel_rfl) ?_
    repeat(go_big_quiet_step (first
     |(go_at_call 188
       rename_i nn
       refine(keyL _ _ _ _ _ nn.u).mono ?_
       rintro e u6 ⟨rfl,b6⟩
       exact⟨rfl,⟨u6,next nn.b b6⟩,rfl⟩)))
    refine wpQuiet_nil ?_
    rintro u9 ⟨⟨_,b9⟩,rfl⟩
    have X:=zh ((zu X).below b9 hx)
    have O9:=zh ((zu O2).below b9 (zu O2).lt.2)
    have BB:=zh (next (zu BB) b9)
    clear b9 c0 c1 c2 c3 c4 d0 d1 d2 d3 d4 C0 C1 C2 C3 C4 D0 D1 D2 D3 D4 near EQ GU O2
    obtain⟨c0,c1,c2,c3,c4⟩:=at0 (zu X)
    obtain⟨d0,d1,d2,d3,d4⟩:=at0 ((zu O9).at 0 (by simp))
    obtain⟨b3,B3⟩:=says_of (Amt (x3))
    obtain⟨b4,B4⟩:=says_of (Amt (x4))
    have RE:=zh (show(rq,rc)=(x3,x4) from by rw[(zu RUN) (zu RK),if_pos (by omega)])
    have wS:IntKind.i64.wrap (x3)=x3:=by rw[IntKind.wrap_i64];omega
    have wT:IntKind.i64.wrap (x4)=x4:=by rw[IntKind.wrap_i64];omega
    go_wp2_with fail
    go_quiet (fail)
    have BB:=zh (below_drewN (zu BB) nq)
    have O9:=zh (own_drewN (zu O9) nq)
    have X:=zh (holds_drewN (zu X) nq)
    clear c0 c1 c2 c3 c4 d0 d1 d2 d3 d4
    generalize u9.drewN nq=u8 at *
    obtain⟨c0,c1,c2,c3,c4⟩:=at0 (zu X)
    obtain⟨d0,d1,d2,d3,d4⟩:=at0 ((zu O9).at 0 (by simp))
    go_wp2_with fail
    refine(iAmt (x3) b3 _ B3).mono ?_
    rintro e w3 ⟨rfl,rfl⟩
    cases b3
    ·have OKF:=zh ((zu BAD) (fun hr=>B3.no (by have e:=congrArg Prod.fst (zu RE);have:=hr.2.1;unfold Amt;simp only at e;omega)))
     clear BAD GOOD ROW RUN RE
     go_wp2
     go_ret
     exact⟨by rw[zu OKF];rfl,zu BB⟩
    go_wp2_with fail
    refine(iAmt (x4) b4 _ B4).mono ?_
    rintro e w4 ⟨rfl,rfl⟩
    cases b4
    ·have OKF:=zh ((zu BAD) (fun hr=>B4.no (by have e:=congrArg Prod.snd (zu RE);have:=hr.2.2;unfold Amt;simp only at e;omega)))
     clear BAD GOOD ROW RUN RE
     go_wp2
     go_ret
     exact⟨by rw[zu OKF];rfl,zu BB⟩
    have GO:=zh ((zu GOOD) ⟨zu RK,by have e:=congrArg Prod.fst (zu RE);have y:=B3.yes;unfold Amt at y;simp only at e;omega,by have e:=congrArg Prod.snd (zu RE);have y:=B4.yes;unfold Amt at y;simp only at e;omega⟩)
    have y3:=B3.yes.2
    have y4:=B4.yes.2
    have HS2:=zh (show 0<k+1→(x3,x4)=run ps (k+1-1) from fun _=>by rw[show k+1-1=k by omega,zu RQ];exact(zu RE).symm)
    have st:=store5 (zu O9) x0 x1 x2 x3 x4
    have r0:w4.frozen? ⟨w.heap.size,0,none⟩=false:=(zu O9).free 0
    have r1:w4.frozen? ⟨w.heap.size,1,none⟩=false:=(zu O9).free 1
    have r2:w4.frozen? ⟨w.heap.size,2,none⟩=false:=(zu O9).free 2
    have r3:w4.frozen? ⟨w.heap.size,3,none⟩=false:=(zu O9).free 3
    have r4:w4.frozen? ⟨w.heap.size,4,none⟩=false:=(zu O9).free 4
    have SO:=zh st.1
    have SB:=zh ((zu BB).grown st.2 (zu BB).size (fun j hj=>by cases hj;exact Nat.le_refl _))
    clear BAD GOOD ROW RUN HB st RE RQ BB
    go_wp2
    go_roundw
    case rel=>exact⟨k+1,x3,x4,(x0,x1,x2,x3,x4),by omega,by go_num,rfl,rfl,by omega,by omega,by omega,by omega,AN,zu SB,zu SO,GO,HS2⟩
    case measure=>simp[intOf];omega
  ·obtain rfl:k=n:=by omega
   obtain rfl:ok=true:=hok.of ((right_iff ps (by omega)).2 (by rw[hl];exact zu HG))
   have HB:=zh hb
   clear hb hok ho
   go_wp2
   go_ret
   exact⟨rfl,zu HB⟩
end IOk5
namespace ILists
open BMem Bks IRead IHave ITrade
open Lots (Says says_of NoOk)
theorem boxed(w:World)(x:Bx)(e:TypeId):Cl (w.alloc (.cells #[.slice (some ⟨x.ga,0,none⟩) x.b.ac.length x.ca,.slice (some ⟨x.gi,0,none⟩) x.b.ic.length x.ci,.slice (some ⟨x.gb,0,none⟩) x.b.bs.length x.cb,.slice (some ⟨x.gl,0,none⟩) x.b.ls.length x.cl,.slice (some ⟨x.gt,0,none⟩) x.b.ts.length x.ct,.int .i64 x.b.lot] e)) w.heap.size x:=⟨by simp,by simp,by simp,by simp,by simp,by simp⟩
theorem iLists(w:World)(x:Bx)(b:Bool)(h:Rd w x)(hb:Says b (Lists x.b)):
  Calls Tryz.prog 162 #[.agg #[.slice (some ⟨x.ga,0,none⟩) x.b.ac.length x.ca,.slice (some ⟨x.gi,0,none⟩) x.b.ic.length x.ci,.slice (some ⟨x.gb,0,none⟩) x.b.bs.length x.cb,.slice (some ⟨x.gl,0,none⟩) x.b.ls.length x.cl,.slice (some ⟨x.gt,0,none⟩) x.b.ts.length x.ct,.int .i64 x.b.lot]] w fun e w'=>e= .returned (.bool b)∧Below w.heap.size w w':=by
 obtain⟨b0,h0⟩:=Chart.says_of 20 4 x.b.ac
 obtain⟨b1,h1⟩:=Chart.says_of 8 2 x.b.ic
 obtain⟨b2,h2⟩:=Bals.says_of (Bals.Right x.b.bs)
 obtain⟨b3,h3⟩:=says_of (Lots.Right x.b.ls)
 obtain⟨b4,h4⟩:=says_of (TRight x.b.ts)
 have H0:=zh h0
 have H1:=zh h1
 have H2:=zh h2
 have H3:=zh h3
 have H4:=zh h4
 have T:=zh hb
 clear h0 h1 h2 h3 h4 hb
 have R0:=zh (h.alloc (.cells #[.slice (some ⟨x.ga,0,none⟩) x.b.ac.length x.ca,.slice (some ⟨x.gi,0,none⟩) x.b.ic.length x.ci,.slice (some ⟨x.gb,0,none⟩) x.b.bs.length x.cb,.slice (some ⟨x.gl,0,none⟩) x.b.ls.length x.cl,.slice (some ⟨x.gt,0,none⟩) x.b.ts.length x.ct,.int .i64 x.b.lot] 44))
 have C0:=zh (boxed w x 44)
 have B0:=zh ((Below.refl w.heap.size w).alloc (Nat.le_refl _) (.cells #[.slice (some ⟨x.ga,0,none⟩) x.b.ac.length x.ca,.slice (some ⟨x.gi,0,none⟩) x.b.ic.length x.ci,.slice (some ⟨x.gb,0,none⟩) x.b.bs.length x.cb,.slice (some ⟨x.gl,0,none⟩) x.b.ls.length x.cl,.slice (some ⟨x.gt,0,none⟩) x.b.ts.length x.ct,.int .i64 x.b.lot] 44))
 have s0:w.heap.size<(w.alloc (.cells #[.slice (some ⟨x.ga,0,none⟩) x.b.ac.length x.ca,.slice (some ⟨x.gi,0,none⟩) x.b.ic.length x.ci,.slice (some ⟨x.gb,0,none⟩) x.b.bs.length x.cb,.slice (some ⟨x.gl,0,none⟩) x.b.ls.length x.cl,.slice (some ⟨x.gt,0,none⟩) x.b.ts.length x.ct,.int .i64 x.b.lot] 44)).heap.size:=by simp
 have na:=h.na
 have ni:=h.ni
 have nb:=h.nb
 have nl:=h.nl
 have nt:=h.nt
 clear h
 go_enter Tryz.func162,Tryz.ntmps162
 go_wp2_with fail
 refine(AccountIKind.iOks _ x.ga _ x.ca x.b.ac b0 rfl na (zu R0).la (zu R0).ra (zu H0)).mono ?_
 rintro e w1 ⟨rfl,bb⟩
 have R1:=zh ((zu R0).below bb)
 have C1:=zh ((zu C0).below bb s0)
 have B1:=zh ((zu B0).trans (bb.mono (Nat.le_of_lt s0)))
 have s1:w.heap.size<w1.heap.size:=Nat.lt_of_lt_of_le s0 bb.size
 have c1:=(zu C1).c1
 clear bb R0 C0 B0 s0
 cases b0
 ·have F:=zh ((zu T).not (fun hh=>(zu H0).no hh.1))
  clear T
  go_wp2
  go_ret
  exact⟨by rw[zu F];rfl,zu B1⟩
 go_wp2_with fail
 refine(InstrIKind.iOks _ x.gi _ x.ci x.b.ic b1 rfl ni (zu R1).li (zu R1).ri (zu H1)).mono ?_
 rintro e w2 ⟨rfl,bb⟩
 have R2:=zh ((zu R1).below bb)
 have C2:=zh ((zu C1).below bb s1)
 have B2:=zh ((zu B1).trans (bb.mono (Nat.le_of_lt s1)))
 have s2:w.heap.size<w2.heap.size:=Nat.lt_of_lt_of_le s1 bb.size
 have c2:=(zu C2).c2
 clear bb R1 C1 B1 s1
 cases b1
 ·have F:=zh ((zu T).not (fun hh=>(zu H1).no hh.2.1))
  clear T
  go_wp2
  go_ret
  exact⟨by rw[zu F];rfl,zu B2⟩
 go_wp2_with fail
 refine(IOk3.iOk _ x.gb _ x.cb x.b.bs b2 rfl nb (zu R2).lb (zu R2).rb (zu H2)).mono ?_
 rintro e w3 ⟨rfl,bb⟩
 have R3:=zh ((zu R2).below bb)
 have C3:=zh ((zu C2).below bb s2)
 have B3:=zh ((zu B2).trans (bb.mono (Nat.le_of_lt s2)))
 have s3:w.heap.size<w3.heap.size:=Nat.lt_of_lt_of_le s2 bb.size
 have c3:=(zu C3).c3
 clear bb R2 C2 B2 s2
 cases b2
 ·have F:=zh ((zu T).not (fun hh=>(zu H2).no hh.2.2.1))
  clear T
  go_wp2
  go_ret
  exact⟨by rw[zu F];rfl,zu B3⟩
 go_wp2_with fail
 refine(IOk5.iOk _ x.gl _ x.cl x.b.ls b3 rfl nl (zu R3).ll (zu R3).rl (zu H3)).mono ?_
 rintro e w4 ⟨rfl,bb⟩
 have R4:=zh ((zu R3).below bb)
 have C4:=zh ((zu C3).below bb s3)
 have B4:=zh ((zu B3).trans (bb.mono (Nat.le_of_lt s3)))
 have s4:w.heap.size<w4.heap.size:=Nat.lt_of_lt_of_le s3 bb.size
 have c4:=(zu C4).c4
 clear bb R3 C3 B3 s3
 cases b3
 ·have F:=zh ((zu T).not (fun hh=>(zu H3).no hh.2.2.2.1))
  clear T
  go_wp2
  go_ret
  exact⟨by rw[zu F];rfl,zu B4⟩
 go_wp2_with fail
 refine(ITrade.iOk _ x.gt _ x.ct x.b.ts b4 rfl nt (zu R4).lt (zu R4).rt (zu H4)).mono ?_
 rintro e w5 ⟨rfl,bb⟩
 have R5:=zh ((zu R4).below bb)
 have C5:=zh ((zu C4).below bb s4)
 have B5:=zh ((zu B4).trans (bb.mono (Nat.le_of_lt s4)))
 have s5:w.heap.size<w5.heap.size:=Nat.lt_of_lt_of_le s4 bb.size
 have c5:=(zu C5).c5
 clear bb R4 C4 B4 s4
 cases b4
 ·have F:=zh ((zu T).not (fun hh=>(zu H4).no hh.2.2.2.2.1))
  clear T
  go_wp2
  go_ret
  exact⟨by rw[zu F];rfl,zu B5⟩
 by_cases d1:0≤x.b.lot
 ·have hd:decide (x.b.lot≤1000000000)=b:=by
   by_cases d2:x.b.lot≤1000000000
   ·rw[decide_eq_true d2]
    exact((zu T).of ⟨(zu H0).yes,(zu H1).yes,(zu H2).yes,(zu H3).yes,(zu H4).yes,d1,d2⟩).symm
   ·rw[decide_eq_false d2]
    exact((zu T).not (fun hh=>d2 hh.2.2.2.2.2.2)).symm
  clear T
  go_wp2
  go_ret
  exact⟨rfl,zu B5⟩
 ·have F:=zh ((zu T).not (fun hh=>d1 hh.2.2.2.2.2.1))
  have hd:decide (0≤x.b.lot)=false:=decide_eq_false d1
  clear T d1
  go_wp2
  go_ret
  exact⟨by rw[zu F];rfl,zu B5⟩
end ILists
end Go.Proofs.YtppkkmaoaiopaaaGreat
