/- Texts of one proof. -/
import Derived.Test.YtlbgfdpcgpijhaaGreatQB3
import Derived.WalkSmall
import Derived.Sort.Grow
open Go.ChangeShapes Go.WideShapes Go.ChangeAt Go.RowKit
set_option linter.unusedVariables false
set_option linter.unusedSimpArgs false
set_option maxRecDepth 100000
set_option maxHeartbeats 32000000
namespace Go.Proofs.YtlbgfdpcgpijhaaGreat
namespace Cmp
open Bals Triples
def cmpI(x y:Int):Int:=if x<y then-1 else if y<x then 1 else 0
theorem isNaN(x:Int)(w:World):Calls Tryz.prog 236 #[.int .i64 x] w fun e w'=>e= .returned (.bool false)∧w'=w:=by
 go_enter Tryz.func236,Tryz.ntmps236
 go_wp2
 go_ret
 exact⟨rfl,rfl⟩
theorem compare1(x y:Int)(w:World):Calls Tryz.prog 217 #[.int .i64 x,.int .i64 y] w fun e w'=>e= .returned (.int .i64 (cmpI x y))∧w'=w:=by
 unfold cmpI
 by_cases h:x<y
 ·go_enter Tryz.func217,Tryz.ntmps217
  go_wp2_with (go_at_call 236;refine(isNaN _ _).mono ?_;rintro e w1 ⟨rfl,rfl⟩)
  go_ret
  exact⟨by simp[h],rfl⟩
 ·by_cases k:y<x
  ·go_enter Tryz.func217,Tryz.ntmps217
   go_wp2_with (go_at_call 236;refine(isNaN _ _).mono ?_;rintro e w1 ⟨rfl,rfl⟩)
   go_ret
   exact⟨by simp[h,k],rfl⟩
  ·go_enter Tryz.func217,Tryz.ntmps217
   go_wp2_with (go_at_call 236;refine(isNaN _ _).mono ?_;rintro e w1 ⟨rfl,rfl⟩)
   go_ret
   exact⟨by simp[h,k],rfl⟩
def orI(x y:Int):Int:=if x=0 then y else x
theorem orL(g:Nat)(x y:Int)(w:World)(h0:w.cell? ⟨g,0,none⟩=some (.int .i64 x))(h1:w.cell? ⟨g,1,none⟩=some (.int .i64 y)):
  Calls Tryz.prog 216 #[.slice (some ⟨g,0,none⟩) 2 2] w fun e w'=>e= .returned (.int .i64 (orI x y))∧w'=w:=by
 unfold orI
 go_enter Tryz.func216,Tryz.ntmps216
 go_wp2
 go_loop [5,8] (fun _ i=>∃(k:Nat),i= .int .i64 k∧(k=0∨(k=1∧x=0)∨(k=2∧x=0∧y=0))) (fun _ i=>2-(intOf i).toNat)
 case atStart=>exact⟨0,rfl,.inl rfl⟩
 case round=>
  obtain⟨k,rfl,hk⟩:=hrel
  rcases hk with rfl|⟨rfl,rfl⟩|⟨rfl,rfl,rfl⟩
  ·by_cases z:x=0
   ·subst z
    go_wp2
    go_round
    case rel=>exact⟨1,by go_num,.inr (.inl ⟨rfl,by trivial⟩)⟩
    case measure=>simp[intOf]
   ·go_wp2
    go_ret
    exact⟨by simp[z],rfl⟩
  ·by_cases z:y=0
   ·subst z
    go_wp2
    go_round
    case rel=>exact⟨2,by go_num,.inr (.inr ⟨rfl,by trivial,by trivial⟩)⟩
    case measure=>simp[intOf]
   ·go_wp2
    go_ret
    exact⟨by simp,rfl⟩
  ·go_wp2
   go_ret
   exact⟨by simp,rfl⟩
def cmpK(a i b j:Int):Int:=orI (cmpI a b) (cmpI i j)
theorem cmpK_lt(a i b j:Int):cmpK a i b j<0↔(a<b∨(a=b∧i<j)):=by
 unfold cmpK orI cmpI
 repeat(first|split|omega)
theorem cmpK_le(a i b j:Int):cmpK a i b j≤0↔¬(b<a∨(b=a∧j<i)):=by
 unfold cmpK orI cmpI
 repeat(first|split|omega)
theorem grow_below(w:World)(q:Nat)(os:Array Obj):Below w.heap.size w (Go.Sort.grow (w.drewN q) os):=
 ⟨rfl,rfl,rfl,by simp[Go.Sort.grow,World.drewN],fun k hk=>by
  show(w.heap++os)[k]?=w.heap[k]?
  rw[Array.getElem?_append_left hk]⟩
theorem compareG(a i b j:Int)(w:World):Calls Tryz.prog 187 #[.agg #[.int .i64 a,.int .i64 i],.agg #[.int .i64 b,.int .i64 j]] w fun e w'=>e= .returned (.int .i64 (cmpK a i b j))∧∃q os,w'=Go.Sort.grow (w.drewN q) os:=by
 unfold cmpK
 go_enter Tryz.func187,Tryz.ntmps187
 go_wp2_with fail
 have hu:∃os,(w.alloc (.cells #[.int .i64 a,.int .i64 i] 180)).alloc (.cells #[.int .i64 b,.int .i64 j] 180)=Go.Sort.grow w os:=⟨_,by rw[Go.Sort.alloc_eq_grow,Go.Sort.alloc_eq_grow,Go.Sort.grow_grow]⟩
 have c0:((w.alloc (.cells #[.int .i64 a,.int .i64 i] 180)).alloc (.cells #[.int .i64 b,.int .i64 j] 180)).cell? ⟨w.heap.size,0,none⟩=some (.int .i64 a):=by simp
 have c1:((w.alloc (.cells #[.int .i64 a,.int .i64 i] 180)).alloc (.cells #[.int .i64 b,.int .i64 j] 180)).cell? ⟨w.heap.size,1,none⟩=some (.int .i64 i):=by simp
 have c2:((w.alloc (.cells #[.int .i64 a,.int .i64 i] 180)).alloc (.cells #[.int .i64 b,.int .i64 j] 180)).cell? ⟨w.heap.size+1,0,none⟩=some (.int .i64 b):=by simp
 have c3:((w.alloc (.cells #[.int .i64 a,.int .i64 i] 180)).alloc (.cells #[.int .i64 b,.int .i64 j] 180)).cell? ⟨w.heap.size+1,1,none⟩=some (.int .i64 j):=by simp
 have HU:=zh hu
 clear hu
 generalize (w.alloc (.cells #[.int .i64 a,.int .i64 i] 180)).alloc (.cells #[.int .i64 b,.int .i64 j] 180)=u at *
 generalize w.heap.size+1=h1 at *
 generalize w.heap.size=h0 at *
 go_region_held3 (fun w'=>w'.cell? ⟨h0,0,none⟩=some (.int .i64 a)∧w'.cell? ⟨h0,1,none⟩=some (.int .i64 i)∧w'.cell? ⟨h1,0,none⟩=some (.int .i64 b)∧w'.cell? ⟨h1,1,none⟩=some (.int .i64 j)) (go_keep)
  (first|(go_at_call 217;refine(compare1 _ _ _).mono ?_;rintro e w1 ⟨rfl,rfl⟩)|(go_at_call 216;refine(orL u.heap.size (cmpI a b) (cmpI i j) _ ?_ ?_).mono ?_;(simp);(simp);rintro e w1 ⟨rfl,rfl⟩))
 all_goals(go_wp2;go_ret)
 all_goals(obtain⟨os,rfl⟩:=zu HU;exact⟨rfl,1,_,by rw[Go.Sort.alloc_eq_grow];exact Go.Sort.grow_grow (w.drewN 1) _ _⟩)
theorem compareK(a i b j:Int)(w:World):Calls Tryz.prog 187 #[.agg #[.int .i64 a,.int .i64 i],.agg #[.int .i64 b,.int .i64 j]] w fun e w'=>e= .returned (.int .i64 (cmpK a i b j))∧Below w.heap.size w w':=
 (compareG a i b j w).mono fun _ _ ⟨he,q,os,hw⟩=>⟨he,by rw[hw];exact grow_below w q os⟩
theorem keyOk(a i:Int)(b:Bool)(w:World)(h:Says b (NoOk a∧NoOk i)):Calls Tryz.prog 186 #[.agg #[.int .i64 a,.int .i64 i]] w fun e w'=>e= .returned (.bool b)∧Below w.heap.size w w':=by
 have hb:Below w.heap.size w (w.alloc (.cells #[.int .i64 a,.int .i64 i] 180)):=(Below.refl _ _).alloc (Nat.le_refl _) _
 by_cases c1:1≤a
 ·by_cases c2:a≤1000
  ·by_cases c3:1≤i
   ·by_cases c4:i≤1000
    ·obtain rfl:b=true:=h.of ⟨⟨c1,c2⟩,c3,c4⟩
     clear h
     go_enter Tryz.func186,Tryz.ntmps186
     go_wp2
     go_ret
     exact⟨rfl,hb⟩
    ·obtain rfl:b=false:=h.not (fun r=>by unfold NoOk at r;omega)
     clear h
     go_enter Tryz.func186,Tryz.ntmps186
     go_wp2
     go_ret
     exact⟨rfl,hb⟩
   ·obtain rfl:b=false:=h.not (fun r=>by unfold NoOk at r;omega)
    clear h
    go_enter Tryz.func186,Tryz.ntmps186
    go_wp2
    go_ret
    exact⟨rfl,hb⟩
  ·obtain rfl:b=false:=h.not (fun r=>by unfold NoOk at r;omega)
   clear h
   go_enter Tryz.func186,Tryz.ntmps186
   go_wp2
   go_ret
   exact⟨rfl,hb⟩
 ·obtain rfl:b=false:=h.not (fun r=>by unfold NoOk at r;omega)
  clear h
  go_enter Tryz.func186,Tryz.ntmps186
  go_wp2
  go_ret
  exact⟨rfl,hb⟩
theorem iAmt(x:Int)(b:Bool)(w:World)(h:Says b (Amt x)):Calls Tryz.prog 188 #[.int .i64 x] w fun e w'=>e= .returned (.bool b)∧w'=w:=by
 by_cases c1: -1000000000000000≤x
 ·by_cases c2:x≤1000000000000000
  ·obtain rfl:b=true:=h.of ⟨c1,c2⟩
   clear h
   go_enter Tryz.func188,Tryz.ntmps188
   go_wp2
   go_ret
   exact⟨rfl,rfl⟩
  ·obtain rfl:b=false:=h.not (fun r=>by unfold Amt at r;omega)
   clear h
   go_enter Tryz.func188,Tryz.ntmps188
   go_wp2
   go_ret
   exact⟨rfl,rfl⟩
 ·obtain rfl:b=false:=h.not (fun r=>by unfold Amt at r;omega)
  clear h
  go_enter Tryz.func188,Tryz.ntmps188
  go_wp2
  go_ret
  exact⟨rfl,rfl⟩
end Cmp
namespace IOk3
open Bals Triples Cmp
def ahead(ps:List T3)(k:Nat):Int×Int:=if k=0 then(0,0) else((el3 ps (k-1)).1,(el3 ps (k-1)).2.1)
theorem ahead_next(ps:List T3)(k:Nat):ahead ps (k+1)=((el3 ps k).1,(el3 ps k).2.1):=by unfold ahead;rw[if_neg (by omega)];rfl
theorem row_iff(ps:List T3)(k:Nat):RowOk ps k↔(NoOk (el3 ps k).1∧NoOk (el3 ps k).2.1)∧((ahead ps k).1<(el3 ps k).1∨((ahead ps k).1=(el3 ps k).1∧(ahead ps k).2<(el3 ps k).2.1))∧Amt (el3 ps k).2.2∧(el3 ps k).2.2≠0:=by
 unfold RowOk ahead
 by_cases k0:k=0
 ·subst k0
  rw[if_pos rfl]
  constructor
  ·rintro⟨a,b,c,d,_⟩
   exact⟨⟨a,b⟩,by unfold NoOk at a;simp only;omega,c,d⟩
  ·rintro⟨⟨a,b⟩,_,c,d⟩
   exact⟨a,b,c,d,fun h=>by omega⟩
 ·rw[if_neg k0]
  constructor
  ·rintro⟨a,b,c,d,e⟩
   exact⟨⟨a,b⟩,e (by omega),c,d⟩
  ·rintro⟨⟨a,b⟩,e,c,d⟩
   exact⟨a,b,c,d,fun h=>e⟩
theorem iOk(w:World)(g n cap:Nat)(ps:List T3)(ok:Bool)(hl:ps.length=n)(h20:n≤1048576)(hg:g<w.heap.size)(h:At3 w g ps)(hok:Says ok (Right ps)):
  Calls Tryz.prog 149 #[.slice (some ⟨g,0,none⟩) n cap] w fun e w'=>e= .returned (.bool ok)∧Below w.heap.size w w':=by
 by_cases nn:(160:Int)<(n:Int)
 ·obtain rfl:ok=false:=hok.not (fun r=>by have:=r.1;omega)
  clear hok h
  go_enter Tryz.func149,Tryz.ntmps149
  go_wp2
  go_ret
  exact⟨rfl,Below.refl _ _⟩
 have H:=zh h
 clear h
 go_enter Tryz.func149,Tryz.ntmps149
 go_wp2
 go_loopw [5,6,13] (fun _ _ i wr=>∃(k:Nat) (bf:Int×Int),k≤n∧i= .int .i64 k∧Hid (ahead ps k=bf)∧Below w.heap.size w wr∧Pairs.Own 180 wr w.heap.size w.heap.size 1 1 [bf]∧Hid (∀i,i<k→RowOk ps i)) (fun _ _ i _=>n-(intOf i).toNat)
 case atStart=>
  exact⟨0,(0,0),by omega,rfl,zh rfl,(Below.refl _ _).alloc (Nat.le_refl _) _,World.ownsRow_lit w #[.int .i64 0,.int .i64 0] 1 (Nat.le_refl _) (by decide) rfl,zh (fun i hi=>absurd hi (by omega))⟩
 case round=>
  obtain⟨k,⟨p,q⟩,hk,rfl,HP,hb,ho,HG⟩:=hrel
  by_cases t:k<n
  ·have hA:=(zu H).below hb hg
   obtain⟨e1,e2,e3⟩:=hA k (by omega)
   have gs:w.heap.size<wr.heap.size:=ho.lt.2
   clear hA
   have HB:=zh hb
   clear hb
   have HO:=zh ho
   clear ho
   have ROW:=zh (row_iff ps k)
   rw[zu HP] at ROW
   obtain⟨b1,B1⟩:=says_of (NoOk (el3 ps k).1∧NoOk (el3 ps k).2.1)
   obtain⟨b3,B3⟩:=says_of (Amt (el3 ps k).2.2)
   have AN:=zh (ahead_next ps k)
   have BAD:=zh (show ¬RowOk ps k→ok=false from fun hr=>hok.not (fun r=>hr (r.2 k (by omega))))
   have GOOD:=zh (show RowOk ps k→∀i,i<k+1→RowOk ps i from fun hr i hi=>by
    by_cases e:i=k
    ·subst e;exact hr
    ·exact(zu HG) i (by omega))
   generalize (el3 ps k).1=x at *
   generalize (el3 ps k).2.1=y at *
   generalize (el3 ps k).2.2=z at *
   go_wp2_with fail
   refine(keyOk x y b1 _ B1).mono ?_
   rintro e w1 ⟨rfl,n1⟩
   have s1:=n1.size
   have n2:Below wr.heap.size wr ((wr.alloc (.cells #[.int .i64 x,.int .i64 y,.int .i64 z] 111)).alloc (.cells #[.int .i64 x,.int .i64 y] 180)):=((Below.refl _ _).alloc (Nat.le_refl _) _).alloc (by simp) _
   have nb:=next n2 n1
   have f0:w1.cell? ⟨wr.heap.size+1,0,none⟩=some (.int .i64 x):=(n1.cell (p:=⟨wr.heap.size+1,0,none⟩) (by simp)).trans (by simp)
   have f1:w1.cell? ⟨wr.heap.size+1,1,none⟩=some (.int .i64 y):=(n1.cell (p:=⟨wr.heap.size+1,1,none⟩) (by simp)).trans (by simp)
   have f2:w1.cell? ⟨wr.heap.size,2,none⟩=some (.int .i64 z):=(n1.cell (p:=⟨wr.heap.size,2,none⟩) (by simp;omega)).trans (by simp)
   have NB:=zh nb
   have O1:=zh ((zu HO).below nb (zu HO).lt.2)
   simp only[World.size_alloc] at s1
   clear n1 n2 nb e1 e2 e3
   cases b1
   ·have OKF:=zh ((zu BAD) (fun hr=>B1.no ((zu ROW).1 hr).1))
    clear BAD GOOD ROW
    go_wp2
    go_ret
    exact⟨by rw[zu OKF];rfl,next (zu HB) (zu NB)⟩
   obtain⟨o0,o1⟩:=(zu O1).at 0 (by simp)
   have o0:w1.cell? ⟨w.heap.size,0,none⟩=some (.int .i64 p):=o0
   have o1:w1.cell? ⟨w.heap.size,1,none⟩=some (.int .i64 q):=o1
   go_wp2_with fail
   refine(compareK x y p q _).mono ?_
   rintro e w2 ⟨rfl,n2⟩
   have s2:=n2.size
   have f0:=(n2.cell (p:=⟨wr.heap.size+1,0,none⟩) (show wr.heap.size+1<_ by omega)).trans f0
   have f1:=(n2.cell (p:=⟨wr.heap.size+1,1,none⟩) (show wr.heap.size+1<_ by omega)).trans f1
   have f2:=(n2.cell (p:=⟨wr.heap.size,2,none⟩) (show wr.heap.size<_ by omega)).trans f2
   have O2:=zh ((zu O1).below n2 (zu O1).lt.2)
   have NB2:=zh (next (zu NB) n2)
   have CLE:=zh (cmpK_le x y p q)
   generalize cmpK x y p q=c at *
   clear n2 o0 o1
   by_cases c0:c≤0
   ·have OKF:=zh ((zu BAD) (fun hr=>(zu CLE).1 c0 ((zu ROW).1 hr).2.1))
    clear BAD GOOD ROW CLE
    go_wp2
    go_ret
    exact⟨by rw[zu OKF];rfl,next (zu HB) (zu NB2)⟩
   go_wp2_with fail
   refine(iAmt z b3 _ B3).mono ?_
   rintro e w3 ⟨rfl,rfl⟩
   cases b3
   ·have OKF:=zh ((zu BAD) (fun hr=>B3.no ((zu ROW).1 hr).2.2.1))
    clear BAD GOOD ROW CLE
    go_wp2
    go_ret
    exact⟨by rw[zu OKF];rfl,next (zu HB) (zu NB2)⟩
   by_cases z0:z=0
   ·have OKF:=zh ((zu BAD) (fun hr=>((zu ROW).1 hr).2.2.2 z0))
    clear BAD GOOD ROW CLE
    subst z0
    go_wp2
    go_ret
    exact⟨by rw[zu OKF];rfl,next (zu HB) (zu NB2)⟩
   have zb:(z==0)=false:=by simpa using z0
   have GO:=zh ((zu GOOD) ((zu ROW).2 ⟨B1.yes,Classical.byContradiction (fun h=>by have:=(zu CLE).2 h;omega),B3.yes,z0⟩))
   clear BAD GOOD ROW CLE
   have S0:=(zu O2).set0 0 x
   have S1:=S0.1.set1 0 y
   obtain⟨d0,d1⟩:=(zu O2).at 0 (by simp)
   have d0:w3.cell? ⟨w.heap.size,0,none⟩=some (.int .i64 p):=d0
   have d1:w3.cell? ⟨w.heap.size,1,none⟩=some (.int .i64 q):=d1
   have r0:w3.frozen? ⟨w.heap.size,0,none⟩=false:=(zu O2).free 0
   have r1:w3.frozen? ⟨w.heap.size,1,none⟩=false:=(zu O2).free 1
   have HS:=zh S1.1
   have BB:=zh (((next (zu HB) (zu NB2)).setCell (p:=⟨w.heap.size,0,none⟩) (Nat.le_refl _) (.int .i64 x)).setCell (p:=⟨w.heap.size,1,none⟩) (Nat.le_refl _) (.int .i64 y))
   clear S0 S1
   go_wp2
   go_roundw
   case rel=>exact⟨k+1,(x,y),by omega,by go_num,AN,zu BB,zu HS,GO⟩
   case measure=>simp[intOf];omega
  ·obtain rfl:k=n:=by omega
   obtain rfl:ok=true:=hok.of ⟨by omega,by rw[hl];exact zu HG⟩
   have HB:=zh hb
   clear hb hok ho
   go_wp2
   go_ret
   exact⟨rfl,zu HB⟩
end IOk3
end Go.Proofs.YtlbgfdpcgpijhaaGreat
