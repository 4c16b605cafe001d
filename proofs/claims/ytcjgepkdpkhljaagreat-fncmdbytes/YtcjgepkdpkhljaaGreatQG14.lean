/- Lemmas. -/
import Derived.Test.YtcjgepkdpkhljaaGreatQG6
import Derived.Test.YtcjgepkdpkhljaaGreatQG10
open Go.ChangeShapes Go.WideShapes Go.ChangeAt Go.RowKit
set_option linter.unusedVariables false
set_option linter.unusedSimpArgs false
set_option maxRecDepth 100000
set_option maxHeartbeats 32000000
namespace Go.Proofs.YtcjgepkdpkhljaaGreat
namespace SPut3
open Bals Triples SOk3 Look
theorem step_t{x y:T3}{r out:List T3}(h:y.1≠x.1∨y.2.1≠x.2.1):out++putL x (y::r) true=(out++[y])++putL x r true:=by simp[putL,h]
theorem step_ts{x y:T3}{r out:List T3}(h:¬(y.1≠x.1∨y.2.1≠x.2.1)):out++putL x (y::r) true=out++putL x r true:=by simp[putL,h]
theorem step_f{x y:T3}{r out:List T3}(b:y.1<x.1∨(y.1=x.1∧y.2.1<x.2.1)):out++putL x (y::r) false=(out++[y])++putL x r false:=by
 have h:y.1≠x.1∨y.2.1≠x.2.1:=by omega
 simp[putL,b,h]
theorem step_i{x y:T3}{r out:List T3}(b:¬(y.1<x.1∨(y.1=x.1∧y.2.1<x.2.1)))(h:y.1≠x.1∨y.2.1≠x.2.1):out++putL x (y::r) false=(out++[x]++[y])++putL x r true:=by simp[putL,b,h]
theorem step_is{x y:T3}{r out:List T3}(b:¬(y.1<x.1∨(y.1=x.1∧y.2.1<x.2.1)))(h:¬(y.1≠x.1∨y.2.1≠x.2.1)):out++putL x (y::r) false=(out++[x])++putL x r true:=by simp[putL,b,h]
theorem out_len{out l R:List T3}(h:out++l=R):out.length≤R.length:=by rw[←h];simp
theorem alone{w:World}{base g:Nat}{p:T3}(h:Own3 184 w base g 1 1 [p]):Holds3 w g 0 p:=h.at 0 (by simp)
theorem sPut(w:World)(g n cap:Nat)(ps:List T3)(a i x:Int)(put0:Bool)(hl:ps.length=n)(h20:n≤100000)(hg:g<w.heap.size)(h:At3 w g ps)(hp:(x==0)=put0):
  Calls Tryz.prog 103 #[.slice (some ⟨g,0,none⟩) n cap,.int .i64 a,.int .i64 i,.int .i64 x] w fun e w'=>∃g' c',e= .returned (.slice (some ⟨g',0,none⟩) (putL (a,i,x) ps put0).length c')∧Own3 184 w' w.heap.size g' (putL (a,i,x) ps put0).length c' (putL (a,i,x) ps put0)∧Below w.heap.size w w':=by
 have H:=zh h
 have LR:=zh (putL_len (a,i,x) ps put0)
 obtain⟨R,hR⟩:∃R,R=putL (a,i,x) ps put0:=⟨_,rfl⟩
 have RL:R.length≤100001:=by rw[hR];refine Nat.le_trans (zu LR) ?_;split<;>omega
 rw[←hR]
 have HR:=zh hR
 have HP:=zh hp
 clear h LR hR hp
 have O0:=zh ((lit30 184 w w.heap.size (Nat.le_refl _)).alloc (.cells #[.int .i64 a,.int .i64 i,.int .i64 x] 184))
 have X0:=zh (lit31 184 (w.alloc (.cells #[] 184)) w.heap.size a i x (by simp))
 have B0:=zh (show Below w.heap.size w ((w.alloc (.cells #[] 184)).alloc (.cells #[.int .i64 a,.int .i64 i,.int .i64 x] 184)) from((Below.refl _ _).alloc (Nat.le_refl _) _).alloc (by simp) _)
 simp only[World.size_alloc] at X0
 go_enter Tryz.func103,Tryz.ntmps103
 go_wp2
 generalize (w.alloc (.cells #[] 184)).alloc (.cells #[.int .i64 a,.int .i64 i,.int .i64 x] 184)=w0 at *
 generalize hX:w.heap.size+1=X at *
 have hXl:w.heap.size<X:=by omega
 clear hX
 go_loopw [9,10,12,13] (fun l pv j _ wr=>∃(out:List T3) (gO c k:Nat) (put:Bool),l= .slice (some ⟨gO,0,none⟩) out.length c∧pv= .bool put∧j= .int .i64 k∧k≤n∧gO≠X∧Hid (Own3 184 wr w.heap.size gO out.length c out)∧Hid (Own3 184 wr w.heap.size X 1 1 [(a,i,x)])∧Hid (out++putL (a,i,x) (ps.drop k) put=R)∧Hid (Below w.heap.size w wr)) (fun _ _ j _ _=>n-(intOf j).toNat)
 case atStart=>exact⟨[],w.heap.size,0,0,put0,rfl,by rw[zu HP],rfl,by omega,by omega,O0,X0,zh (zu HR).symm,B0⟩
 case round=>
  clear O0 X0 B0
  obtain⟨out,gO,c,k,put,rfl,rfl,rfl,hk,gX,HO,HX,HE,HB⟩:=hrel
  have OL:=out_len (zu HE)
  have bs:=(zu HB).size
  have gl:=(zu HO).lt.2
  have xl:=(zu HX).lt.2
  by_cases t:k<n
  ·obtain⟨e1,e2,e3⟩:=(zu H).below (zu HB) hg k (by omega)
   have HE:=zh (show out++putL (a,i,x) (el3 ps k::ps.drop (k+1)) put=R by rw[←drop_next (by omega)];exact zu HE)
   have EQ:el3 ps k=((el3 ps k).1,(el3 ps k).2.1,(el3 ps k).2.2):=rfl
   rw[EQ] at HE
   clear EQ
   generalize (el3 ps k).1=p at *
   generalize (el3 ps k).2.1=q at *
   generalize (el3 ps k).2.2=r at *
   have O1:=zh ((zu HO).alloc (.cells #[.int .i64 p,.int .i64 q,.int .i64 r] 184))
   have X1:=zh ((zu HX).alloc (.cells #[.int .i64 p,.int .i64 q,.int .i64 r] 184))
   have Y1:=zh (lit31 184 wr w.heap.size p q r bs)
   have B1:=zh ((zu HB).alloc bs (.cells #[.int .i64 p,.int .i64 q,.int .i64 r] 184))
   obtain⟨b4,B4⟩:=says_of (p<a∨(p=a∧q<i))
   clear HO HX HB
   cases put
   ·cases b4
    ·have B4n:=B4.no
     go_wp2_with fail
     refine(sBefore p q a i false _ B4).mono ?_
     rintro e w9 ⟨rfl,rfl⟩
     generalize wr.alloc (.cells #[.int .i64 p,.int .i64 q,.int .i64 r] 184)=u at *
     generalize hy:wr.heap.size=yb at *
     clear hy
     have gY:gO≠yb:=by omega
     have xY:X≠yb:=by omega
     obtain⟨x0,x1,x2⟩:=alone (zu X1)
     have x0:u.cell? ⟨X,0,none⟩=some (.int .i64 a):=x0
     have x1:u.cell? ⟨X,1,none⟩=some (.int .i64 i):=x1
     have x2:u.cell? ⟨X,2,none⟩=some (.int .i64 x):=x2
     have V5:=zh (show Holds3 (u.alloc (.cells #[.int .i64 a,.int .i64 i,.int .i64 x] 184)) u.heap.size 0 (a,i,x) from by unfold Holds3;simp)
     have s5:=(zu B1).size
     go_wp2_with (first|(at_builtin;refine BalApp.wp_app _ rfl _ _ rfl w.heap.size gO out.length c out u.heap.size a i x rfl rfl ((zu O1).alloc _) (zu V5) (by omega) (by simp;omega) ?_)|go_in)
     intro g5 c5 w5 o5 gr5 loc5
     have O5:=zh o5
     have X5:=zh (((zu X1).alloc (.cells #[.int .i64 a,.int .i64 i,.int .i64 x] 184)).kept gr5 (by simp;omega))
     have Y5:=zh (((zu Y1).alloc (.cells #[.int .i64 a,.int .i64 i,.int .i64 x] 184)).kept gr5 (by simp;omega))
     have B5:=zh (((zu B1).alloc s5 (.cells #[.int .i64 a,.int .i64 i,.int .i64 x] 184)).grown gr5 (by simp;omega) (fun j hj=>by cases hj;exact(zu O1).lt.1))
     have xl5:=(zu X5).lt.2
     have gX5:g5≠X:=by
      try simp at loc5
      have:=(zu X1).lt.2
      omega
     have gY5:g5≠yb:=by
      try simp at loc5
      have:=(zu Y1).lt.2
      omega
     clear o5 gr5 loc5 V5
     obtain⟨y0,y1,y2⟩:=alone (zu Y5)
     have y0:w5.cell? ⟨yb,0,none⟩=some (.int .i64 p):=y0
     have y1:w5.cell? ⟨yb,1,none⟩=some (.int .i64 q):=y1
     have y2:w5.cell? ⟨yb,2,none⟩=some (.int .i64 r):=y2
     by_cases o1:p=a∧q=i
     ·obtain⟨rfl,rfl⟩:=o1
      go_wp2
      go_roundw
      case rel=>exact⟨out++[(p,q,x)],g5,c5,k+1,true,by rw[show(out++[(p,q,x)]).length=out.length+1 by simp],rfl,by go_num,by omega,gX5,zh (by rw[show(out++[(p,q,x)]).length=out.length+1 by simp];first|exact zu O5|simpa using zu O5),X5,zh (by first|exact(step_is (y:=(p,q,r)) B4n (by simp)).symm.trans (zu HE)|simpa using(step_is (y:=(p,q,r)) B4n (by simp)).symm.trans (zu HE)),B5⟩
      case measure=>simp[intOf];omega
     ·have EE:=zh ((step_i (y:=(p,q,r)) (x:=(a,i,x)) (out:=out) (r:=ps.drop (k+1)) B4n (by simp only;omega)).symm.trans (zu HE))
      rcases(show p≠a∨(p=a∧q≠i) by omega) with o2|⟨rfl,o2⟩
      ·have ob:(p==a)=false:=by simpa using o2
       have V6:=zh (show Holds3 (w5.alloc (.cells #[.int .i64 p,.int .i64 q,.int .i64 r] 184)) w5.heap.size 0 (p,q,r) from by unfold Holds3;simp)
       have s6:=(zu B5).size
       go_wp2_with (first|(at_builtin;refine BalApp.wp_app _ rfl _ _ rfl w.heap.size g5 (out.length+1) c5 (out++[(a,i,x)]) w5.heap.size p q r rfl rfl ((zu O5).alloc _) (zu V6) (by omega) (by simp;omega) ?_)|go_in)
       intro g6 c6 w6 o6 gr6 loc6
       have O6:=zh o6
       have X6:=zh (((zu X5).alloc (.cells #[.int .i64 p,.int .i64 q,.int .i64 r] 184)).kept gr6 (by simp;omega))
       have Y6:=zh (((zu Y5).alloc (.cells #[.int .i64 p,.int .i64 q,.int .i64 r] 184)).kept gr6 (by simp;omega))
       have B6:=zh (((zu B5).alloc s6 (.cells #[.int .i64 p,.int .i64 q,.int .i64 r] 184)).grown gr6 (by simp;omega) (fun j hj=>by cases hj;exact(zu O5).lt.1))
       have xl6:=(zu X6).lt.2
       have gX6:g6≠X:=by
        try simp at loc6
        have:=(zu X5).lt.2
        omega
       have gY6:g6≠yb:=by
        try simp at loc6
        have:=(zu Y5).lt.2
        omega
       clear o6 gr6 loc6 V6
       go_wp2
       go_roundw
       case rel=>exact⟨out++[(a,i,x)]++[(p,q,r)],g6,c6,k+1,true,by rw[show(out++[(a,i,x)]++[(p,q,r)]).length=out.length+1+1 by simp],rfl,by go_num,by omega,gX6,zh (by rw[show(out++[(a,i,x)]++[(p,q,r)]).length=out.length+1+1 by simp];first|exact zu O6|simpa using zu O6),X6,zh (by first|exact zu EE|simpa using zu EE),B6⟩
       case measure=>simp[intOf];omega
      ·have ob:(q==i)=false:=by simpa using o2
       have V6:=zh (show Holds3 (w5.alloc (.cells #[.int .i64 p,.int .i64 q,.int .i64 r] 184)) w5.heap.size 0 (p,q,r) from by unfold Holds3;simp)
       have s6:=(zu B5).size
       go_wp2_with (first|(at_builtin;refine BalApp.wp_app _ rfl _ _ rfl w.heap.size g5 (out.length+1) c5 (out++[(p,i,x)]) w5.heap.size p q r rfl rfl ((zu O5).alloc _) (zu V6) (by omega) (by simp;omega) ?_)|go_in)
       intro g6 c6 w6 o6 gr6 loc6
       have O6:=zh o6
       have X6:=zh (((zu X5).alloc (.cells #[.int .i64 p,.int .i64 q,.int .i64 r] 184)).kept gr6 (by simp;omega))
       have Y6:=zh (((zu Y5).alloc (.cells #[.int .i64 p,.int .i64 q,.int .i64 r] 184)).kept gr6 (by simp;omega))
       have B6:=zh (((zu B5).alloc s6 (.cells #[.int .i64 p,.int .i64 q,.int .i64 r] 184)).grown gr6 (by simp;omega) (fun j hj=>by cases hj;exact(zu O5).lt.1))
       have xl6:=(zu X6).lt.2
       have gX6:g6≠X:=by
        try simp at loc6
        have:=(zu X5).lt.2
        omega
       have gY6:g6≠yb:=by
        try simp at loc6
        have:=(zu Y5).lt.2
        omega
       clear o6 gr6 loc6 V6
       go_wp2
       go_roundw
       case rel=>exact⟨out++[(p,i,x)]++[(p,q,r)],g6,c6,k+1,true,by rw[show(out++[(p,i,x)]++[(p,q,r)]).length=out.length+1+1 by simp],rfl,by go_num,by omega,gX6,zh (by rw[show(out++[(p,i,x)]++[(p,q,r)]).length=out.length+1+1 by simp];first|exact zu O6|simpa using zu O6),X6,zh (by first|exact zu EE|simpa using zu EE),B6⟩
       case measure=>simp[intOf];omega
    ·have B4y:=B4.yes
     have EE:=zh ((step_f (y:=(p,q,r)) (x:=(a,i,x)) (out:=out) (r:=ps.drop (k+1)) B4y).symm.trans (zu HE))
     go_wp2_with fail
     refine(sBefore p q a i true _ B4).mono ?_
     rintro e w9 ⟨rfl,rfl⟩
     generalize wr.alloc (.cells #[.int .i64 p,.int .i64 q,.int .i64 r] 184)=u at *
     generalize hy:wr.heap.size=yb at *
     clear hy
     have gY:gO≠yb:=by omega
     have xY:X≠yb:=by omega
     obtain⟨y0,y1,y2⟩:=alone (zu Y1)
     have y0:u.cell? ⟨yb,0,none⟩=some (.int .i64 p):=y0
     have y1:u.cell? ⟨yb,1,none⟩=some (.int .i64 q):=y1
     have y2:u.cell? ⟨yb,2,none⟩=some (.int .i64 r):=y2
     rcases(show p≠a∨(p=a∧q≠i) by omega) with o2|⟨rfl,o2⟩
     ·have ob:(p==a)=false:=by simpa using o2
      have V6:=zh (show Holds3 (u.alloc (.cells #[.int .i64 p,.int .i64 q,.int .i64 r] 184)) u.heap.size 0 (p,q,r) from by unfold Holds3;simp)
      have s6:=(zu B1).size
      go_wp2_with (first|(at_builtin;refine BalApp.wp_app _ rfl _ _ rfl w.heap.size gO out.length c out u.heap.size p q r rfl rfl ((zu O1).alloc _) (zu V6) (by omega) (by simp;omega) ?_)|go_in)
      intro g6 c6 w6 o6 gr6 loc6
      have O6:=zh o6
      have X6:=zh (((zu X1).alloc (.cells #[.int .i64 p,.int .i64 q,.int .i64 r] 184)).kept gr6 (by simp;omega))
      have Y6:=zh (((zu Y1).alloc (.cells #[.int .i64 p,.int .i64 q,.int .i64 r] 184)).kept gr6 (by simp;omega))
      have B6:=zh (((zu B1).alloc s6 (.cells #[.int .i64 p,.int .i64 q,.int .i64 r] 184)).grown gr6 (by simp;omega) (fun j hj=>by cases hj;exact(zu O1).lt.1))
      have xl6:=(zu X6).lt.2
      have gX6:g6≠X:=by
       try simp at loc6
       have:=(zu X1).lt.2
       omega
      have gY6:g6≠yb:=by
       try simp at loc6
       have:=(zu Y1).lt.2
       omega
      clear o6 gr6 loc6 V6
      go_wp2
      go_roundw
      case rel=>exact⟨out++[(p,q,r)],g6,c6,k+1,false,by rw[show(out++[(p,q,r)]).length=out.length+1 by simp],rfl,by go_num,by omega,gX6,zh (by rw[show(out++[(p,q,r)]).length=out.length+1 by simp];first|exact zu O6|simpa using zu O6),X6,zh (by first|exact zu EE|simpa using zu EE),B6⟩
      case measure=>simp[intOf];omega
     ·have ob:(q==i)=false:=by simpa using o2
      have V6:=zh (show Holds3 (u.alloc (.cells #[.int .i64 p,.int .i64 q,.int .i64 r] 184)) u.heap.size 0 (p,q,r) from by unfold Holds3;simp)
      have s6:=(zu B1).size
      go_wp2_with (first|(at_builtin;refine BalApp.wp_app _ rfl _ _ rfl w.heap.size gO out.length c out u.heap.size p q r rfl rfl ((zu O1).alloc _) (zu V6) (by omega) (by simp;omega) ?_)|go_in)
      intro g6 c6 w6 o6 gr6 loc6
      have O6:=zh o6
      have X6:=zh (((zu X1).alloc (.cells #[.int .i64 p,.int .i64 q,.int .i64 r] 184)).kept gr6 (by simp;omega))
      have Y6:=zh (((zu Y1).alloc (.cells #[.int .i64 p,.int .i64 q,.int .i64 r] 184)).kept gr6 (by simp;omega))
      have B6:=zh (((zu B1).alloc s6 (.cells #[.int .i64 p,.int .i64 q,.int .i64 r] 184)).grown gr6 (by simp;omega) (fun j hj=>by cases hj;exact(zu O1).lt.1))
      have xl6:=(zu X6).lt.2
      have gX6:g6≠X:=by
       try simp at loc6
       have:=(zu X1).lt.2
       omega
      have gY6:g6≠yb:=by
       try simp at loc6
       have:=(zu Y1).lt.2
       omega
      clear o6 gr6 loc6 V6
      go_wp2
      go_roundw
      case rel=>exact⟨out++[(p,q,r)],g6,c6,k+1,false,by rw[show(out++[(p,q,r)]).length=out.length+1 by simp],rfl,by go_num,by omega,gX6,zh (by rw[show(out++[(p,q,r)]).length=out.length+1 by simp];first|exact zu O6|simpa using zu O6),X6,zh (by first|exact zu EE|simpa using zu EE),B6⟩
      case measure=>simp[intOf];omega
   ·clear B4
    by_cases o1:p=a∧q=i
    ·obtain⟨rfl,rfl⟩:=o1
     have EE:=zh ((step_ts (y:=(p,q,r)) (x:=(p,q,x)) (out:=out) (r:=ps.drop (k+1)) (by simp)).symm.trans (zu HE))
     go_wp2
     go_roundw
     case rel=>exact⟨out,gO,c,k+1,true,rfl,rfl,by go_num,by omega,gX,O1,X1,zh (by first|exact zu EE|simpa using zu EE),B1⟩
     case measure=>simp[intOf];omega
    ·have EE:=zh ((step_t (y:=(p,q,r)) (x:=(a,i,x)) (out:=out) (r:=ps.drop (k+1)) (by simp only;omega)).symm.trans (zu HE))
     have Vb:=zh (show Holds3 ((wr.alloc (.cells #[.int .i64 p,.int .i64 q,.int .i64 r] 184)).alloc (.cells #[.int .i64 p,.int .i64 q,.int .i64 r] 184)) (wr.heap.size+1) 0 (p,q,r) from by unfold Holds3;simp)
     rcases(show p≠a∨(p=a∧q≠i) by omega) with o2|⟨rfl,o2⟩
     ·have ob:(p==a)=false:=by simpa using o2
      go_wp2_with (first|(at_builtin;refine BalApp.wp_app _ rfl _ _ rfl w.heap.size gO out.length c out (wr.heap.size+1) p q r rfl rfl ((zu O1).alloc _) (zu Vb) (by omega) (by simp;omega) ?_)|go_in)
      intro g6 c6 w6 o6 gr6 loc6
      have O6:=zh o6
      have X6:=zh (((zu X1).alloc (.cells #[.int .i64 p,.int .i64 q,.int .i64 r] 184)).kept gr6 (by simp;omega))
      have B6:=zh (((zu B1).alloc (zu B1).size (.cells #[.int .i64 p,.int .i64 q,.int .i64 r] 184)).grown gr6 (by simp;omega) (fun j hj=>by cases hj;exact(zu O1).lt.1))
      have gX6:g6≠X:=by
       try simp at loc6
       omega
      clear o6 gr6 loc6
      go_wp2
      go_roundw
      case rel=>exact⟨out++[(p,q,r)],g6,c6,k+1,true,by rw[show(out++[(p,q,r)]).length=out.length+1 by simp],rfl,by go_num,by omega,gX6,zh (by rw[show(out++[(p,q,r)]).length=out.length+1 by simp];first|exact zu O6|simpa using zu O6),X6,zh (by first|exact zu EE|simpa using zu EE),B6⟩
      case measure=>simp[intOf];omega
     ·have ob:(q==i)=false:=by simpa using o2
      go_wp2_with (first|(at_builtin;refine BalApp.wp_app _ rfl _ _ rfl w.heap.size gO out.length c out (wr.heap.size+1) p q r rfl rfl ((zu O1).alloc _) (zu Vb) (by omega) (by simp;omega) ?_)|go_in)
      intro g6 c6 w6 o6 gr6 loc6
      have O6:=zh o6
      have X6:=zh (((zu X1).alloc (.cells #[.int .i64 p,.int .i64 q,.int .i64 r] 184)).kept gr6 (by simp;omega))
      have B6:=zh (((zu B1).alloc (zu B1).size (.cells #[.int .i64 p,.int .i64 q,.int .i64 r] 184)).grown gr6 (by simp;omega) (fun j hj=>by cases hj;exact(zu O1).lt.1))
      have gX6:g6≠X:=by
       try simp at loc6
       omega
      clear o6 gr6 loc6
      go_wp2
      go_roundw
      case rel=>exact⟨out++[(p,q,r)],g6,c6,k+1,true,by rw[show(out++[(p,q,r)]).length=out.length+1 by simp],rfl,by go_num,by omega,gX6,zh (by rw[show(out++[(p,q,r)]).length=out.length+1 by simp];first|exact zu O6|simpa using zu O6),X6,zh (by first|exact zu EE|simpa using zu EE),B6⟩
      case measure=>simp[intOf];omega
  ·obtain rfl:k=n:=by omega
   have HE:=zh (show out++putL (a,i,x) [] put=R by rw[←List.drop_of_length_le (show ps.length≤k by omega)];exact zu HE)
   cases put
   ·have EE:=zh (show out++[(a,i,x)]=R from by rw[←zu HE];simp[putL])
    obtain⟨x0,x1,x2⟩:=alone (zu HX)
    have x0:wr.cell? ⟨X,0,none⟩=some (.int .i64 a):=x0
    have x1:wr.cell? ⟨X,1,none⟩=some (.int .i64 i):=x1
    have x2:wr.cell? ⟨X,2,none⟩=some (.int .i64 x):=x2
    have Vb:=zh (show Holds3 (wr.alloc (.cells #[.int .i64 a,.int .i64 i,.int .i64 x] 184)) wr.heap.size 0 (a,i,x) from by unfold Holds3;simp)
    go_wp2_with (first|(at_builtin;refine BalApp.wp_app _ rfl _ _ rfl w.heap.size gO out.length c out wr.heap.size a i x rfl rfl ((zu HO).alloc _) (zu Vb) (by omega) (by simp;omega) ?_)|go_in)
    intro g6 c6 w6 o6 gr6 loc6
    have O6:=zh o6
    have B6:=zh (((zu HB).alloc bs (.cells #[.int .i64 a,.int .i64 i,.int .i64 x] 184)).grown gr6 (by simp;omega) (fun j hj=>by cases hj;exact(zu HO).lt.1))
    clear o6 gr6 loc6
    go_wp2
    go_ret
    refine⟨g6,c6,?_,?_,zu B6⟩
    ·rw[←zu EE];simp
    ·rw[←zu EE,show(out++[(a,i,x)]).length=out.length+1 by simp];exact zu O6
   ·have EE:=zh (show out=R from by rw[←zu HE];simp[putL])
    go_wp2
    go_ret
    exact⟨gO,c,by rw[←zu EE];rfl,by rw[←zu EE];exact zu HO,zu HB⟩
end SPut3
namespace Post
open Bals Triples SOk3 Look SPut3 Legs
def sumIn(a b:Int)(c:Bool):Int:=if c then a+b else 0
theorem sAdd(a b:Int)(c:Bool)(w:World)(ha:Amt a)(hb:Amt b)(hc:Says c (Amt (a+b))):
  Calls Tryz.prog 111 #[.int .i64 a,.int .i64 b] w fun e w'=>e= .returned (.tuple #[.int .i64 (sumIn a b c),.bool c])∧w'=w:=by
 have hs:IntKind.i64.wrap (a+b)=a+b:=by unfold Amt at ha hb;rw[IntKind.wrap_i64];omega
 have SA:Says true (Amt a):=⟨fun _=>ha,fun _=>rfl⟩
 have SB:Says true (Amt b):=⟨fun _=>hb,fun _=>rfl⟩
 have T:=zh (show(true=true∧Amt (a+b)∧sumIn a b c=a+b∧c=true)∨(¬(true=true∧Amt (a+b))∧sumIn a b c=0∧c=false) from by
  cases c
  ·exact .inr ⟨fun q=>hc.no q.2,rfl,rfl⟩
  ·exact .inl ⟨rfl,hc.yes,rfl,rfl⟩)
 clear ha hb hc
 generalize sumIn a b c=r at *
 go_enter Tryz.func111,Tryz.ntmps111
 go_wp2_with fail
 refine(sAmt a true _ SA).mono ?_
 rintro e w1 ⟨rfl,rfl⟩
 go_wp2_with fail
 refine(sAmt b true _ SB).mono ?_
 rintro e w2 ⟨rfl,rfl⟩
 go_wp2_with fail
 refine(sTold (a+b) true c r _ (by have:=zu T;simpa using this)).mono ?_
 rintro e w3 ⟨rfl,rfl⟩
 go_wp2
 go_ret2
 exact⟨rfl,rfl⟩
theorem in_iff{xs:List Int}{x:Int}:x∈xs↔∃i,i<xs.length∧xs.getD i 0=x:=by
 constructor
 ·intro h
  obtain⟨i,hi,e⟩:=List.getElem_of_mem h
  exact⟨i,hi,by simp[List.getD,hi,e]⟩
 ·rintro⟨i,hi,e⟩
  rw[←e]
  simp only[List.getD,List.getElem?_eq_getElem hi,Option.getD_some]
  exact List.getElem_mem hi
theorem sHas(w:World)(g n cap:Nat)(xs:List Int)(x:Int)(b:Bool)(hl:xs.length=n)(h20:n≤1048576)(h:Ints.At w g xs)(hb:Says b (x∈xs)):
  Calls Tryz.prog 102 #[.slice (some ⟨g,0,none⟩) n cap,.int .i64 x] w fun e w'=>e= .returned (.bool b)∧w'=w:=by
 go_enter Tryz.func102,Tryz.ntmps102
 go_wp2
 go_loop [5] (fun j=>∃(k:Nat),k≤n∧j= .int .i64 k∧Hid (∀i,i<k→xs.getD i 0≠x)) (fun j=>n-(intOf j).toNat)
 case atStart=>exact⟨0,by omega,rfl,zh (fun i hi=>by omega)⟩
 case round=>
  obtain⟨k,hk,rfl,HG⟩:=hrel
  by_cases t:k<n
  ·have e1:=h k (by omega)
   have YES:=zh (show xs.getD k 0=x→b=true from fun e=>hb.of (in_iff.2 ⟨k,by omega,e⟩))
   have GO:=zh (show xs.getD k 0≠x→∀i,i<k+1→xs.getD i 0≠x from fun hn i hi=>by
    by_cases e:i=k
    ·subst e;exact hn
    ·exact(zu HG) i (by omega))
   clear h
   generalize xs.getD k 0=y at *
   by_cases c1:y=x
   ·obtain rfl:b=true:=(zu YES) c1
    clear YES GO
    subst c1
    go_wp2
    go_ret
    exact⟨rfl,rfl⟩
   ·have G:=zh ((zu GO) c1)
    have c1b:(y==x)=false:=by simpa using c1
    clear YES GO
    go_wp2
    go_round
    case rel=>exact⟨k+1,by omega,by go_num,G⟩
    case measure=>simp[intOf];omega
  ·obtain rfl:k=n:=by omega
   obtain rfl:b=false:=hb.not (fun r=>by
    obtain⟨i,hi,e⟩:=in_iff.1 r
    exact(zu HG) i (by omega) e)
   clear h hb
   go_wp2
   go_ret
   exact⟨rfl,rfl⟩
end Post
namespace Post2
open Bals Triples SOk3 Look SPut3 Legs Post
def PostAnswers(w:World)(ps ls:List T3)(xs:List Int)(e:Ending)(w':World):Prop:=
 ∃qs c g cap,IsPost ps ls xs qs c∧e= .returned (.tuple #[.slice (some ⟨g,0,none⟩) qs.length cap,.int .i64 c])∧Own3 184 w' w.heap.size g qs.length cap qs∧Below w.heap.size w w'
theorem none_posted{w u:World}{ps ls:List T3}{xs:List Int}(hp:IsPost ps ls xs [] 1)(hb:Below w.heap.size w u):PostAnswers w ps ls xs (.returned (.tuple #[.slice (some ⟨u.heap.size,0,none⟩) 0 0,.int .i64 1])) (u.alloc (.cells #[] 184)):=
 ⟨[],1,u.heap.size,0,hp,rfl,lit30 _ _ _ hb.size,hb.alloc hb.size _⟩
end Post2
namespace SPost
open Bals Triples SOk3 Look SPut3 Legs Post Post2
theorem ints_drewN{w:World}{g:Nat}{xs:List Int}(h:Ints.At w g xs)(m:Nat):Ints.At (w.drewN m) g xs:=h
theorem sBalsPost(w:World)(g n cap gL m capL gS s capS:Nat)(ps ls:List T3)(xs:List Int)(hp:ps.length=n)(hl:ls.length=m)(hs:xs.length=s)(n20:n≤1048576)(m20:m≤1048576)(s20:s≤1048576)
  (hg:g<w.heap.size)(hgL:gL<w.heap.size)(hgS:gS<w.heap.size)(h:At3 w g ps)(hL:At3 w gL ls)(hX:Ints.At w gS xs):
  Calls Tryz.prog 98 #[.slice (some ⟨g,0,none⟩) n cap,.slice (some ⟨gL,0,none⟩) m capL,.slice (some ⟨gS,0,none⟩) s capS] w (PostAnswers w ps ls xs):=by
 obtain⟨b0,S0⟩:=says_of (Right ps)
 obtain⟨b1,S1⟩:=says_of (Formed ls)
 have BAD:=zh (show ¬(b0=true∧b1=true∧s≤20)→IsPost ps ls xs [] 1 from fun hb=> .bad (fun r=>hb ⟨S0.of r.1,S1.of r.2.1,by omega⟩))
 have H:=zh h
 have HL:=zh hL
 have HX:=zh hX
 clear h hL hX
 go_enter Tryz.func98,Tryz.ntmps98
 go_wp2_with fail
 refine(sOk _ g n cap ps b0 hp n20 hg (zu H) S0).mono ?_
 rintro e w1 ⟨rfl,n1⟩
 have A1:=zh ((zu H).below n1 hg)
 have L1:=zh ((zu HL).below n1 hgL)
 have B1:=zh n1
 have s1:=n1.size
 clear n1
 cases b0
 ·have P0:=zh ((zu BAD) (fun q=>by cases q.1))
  go_wp2
  go_ret2
  exact none_posted (zu P0) (zu B1)
 go_wp2_with fail
 refine(sRight _ gL m capL ls b1 hl m20 (zu L1) S1).mono ?_
 rintro e w2 ⟨rfl,rfl⟩
 cases b1
 ·have P0:=zh ((zu BAD) (fun q=>by cases q.2.1))
  go_wp2
  go_ret2
  exact none_posted (zu P0) (zu B1)
 by_cases ts:¬s≤20
 ·have ts2:(20:Int)<(s:Int):=by omega
  have P0:=zh ((zu BAD) (fun q=>ts q.2.2))
  go_wp2
  go_ret2
  exact none_posted (zu P0) (zu B1)
 have ts:s≤20:=by omega
 have ts2:¬(20:Int)<(s:Int):=by omega
 have ALL:=zh (show Right ps∧Formed ls∧xs.length≤20 from⟨S0.yes,S1.yes,by omega⟩)
 have n160:n≤160:=by have:=S0.yes.1;omega
 have m160:m≤160:=by have:=S1.yes.1;omega
 have FF:=zh (fine_of S0.yes)
 clear BAD
 have bq:=(zu B1).size
 have Z:=zh (lit30 184 w2 w.heap.size bq)
 have A5:=zh ((zu A1).below (one_more w2 (.cells #[] 184)) (by omega))
 go_wp2_with (first|(at_builtin;refine BalApp.wp_copy _ rfl _ _ rfl w.heap.size w2.heap.size n 0 ps g cap rfl rfl (zu Z) hp (zu A5) (by omega) (by simp;omega) ?_)|go_in)
 intro g6 c6 w6 o6 gr6 _
 have O6:=zh o6
 have B6:=zh (((zu B1).alloc bq (.cells #[] 184)).grown gr6 (by simp;omega) (fun j hj=>by cases hj;exact bq))
 clear o6 gr6
 have gl6:=(zu O6).lt.2
 have b6:=(zu B6).size
 obtain⟨b,SB⟩:=says_of (Formed ls∧Even ls)
 go_wp2_with fail
 refine(sLegsOk _ gL m capL ls b hl m20 ((zu HL).below (zu B6) hgL) SB).mono ?_
 rintro e w7 ⟨rfl,q7,rfl⟩
 have O7:=zh (show Own3 184 (w6.drewN q7) w.heap.size g6 n c6 ps from zu O6)
 have B7:=zh (below_drewN (zu B6) q7)
 generalize w6.drewN q7=w7 at *
 clear A1 L1 B1 Z A5 B6 O6 gl6 b6 bq s1
 cases b
 ·have P0:=zh (IsPost.uneven (zu ALL) (fun e=>SB.no ⟨S1.yes,e⟩))
  go_wp2
  go_ret2
  exact⟨ps,2,g6,c6,zu P0,by rw[hp];rfl,by rw[hp];exact zu O7,zu B7⟩
 have EV:=zh SB.yes.2
 go_wp2
 go_loopw [9,10,11,12] (fun l j _ _ wr=>∃(out:List T3) (gO cO k:Nat),l= .slice (some ⟨gO,0,none⟩) out.length cO∧j= .int .i64 k∧k≤m∧out.length≤160+k∧Hid (Own3 184 wr w.heap.size gO out.length cO out)∧Hid (Below w.heap.size w wr)∧Hid (Bals.Good out)∧Hid (Fine (val out))∧Hid (posts (val ps) ls=posts (val out) (ls.drop k))) (fun _ j _ _ _=>m-(intOf j).toNat)
 case atStart=>exact⟨ps,g6,c6,0,by rw[hp],rfl,by omega,by omega,zh (by rw[hp];exact zu O7),B7,zh S0.yes.good,FF,zh rfl⟩
 case round=>
  clear O7 B7
  obtain⟨out,gO,cO,k,rfl,rfl,hk,ol,HO,HB,GD,FN,HE⟩:=hrel
  have gol:=(zu HO).lt.2
  have bs:=(zu HB).size
  by_cases t:k<m
  ·obtain⟨e1,e2,e3⟩:=(zu HL).below (zu HB) hgL k (by omega)
   obtain⟨l1,l2,l3⟩:=S1.yes.2 k (by omega)
   have AM:=((zu FN) (el3 ls k).1 (el3 ls k).2.1).1
   obtain⟨c,SC⟩:=says_of (Amt (val out (el3 ls k).1 (el3 ls k).2.1+(el3 ls k).2.2))
   have PY:=zh (fun a=>(zu HE).trans (posts_yes (f:=val out) (ps:=ls) (k:=k) (by omega) a))
   have PN:=zh (fun a=>(zu HE).trans (posts_no (f:=val out) (ps:=ls) (k:=k) (by omega) a))
   have FU:=zh (fun a=>(zu FN).upd (a:=(el3 ls k).1) (i:=(el3 ls k).2.1) (x:=val out (el3 ls k).1 (el3 ls k).2.1+(el3 ls k).2.2) l1 l2 a)
   have OFC:=zh (fun q=>sOf (wr.drewN q) gO out.length cO out (el3 ls k).1 (el3 ls k).2.1 rfl (by omega) (at_drewN (zu HO).at q))
   clear HE FN
   generalize (el3 ls k).1=x at *
   generalize (el3 ls k).2.1=y at *
   generalize (el3 ls k).2.2=z at *
   generalize hv:val out x y=v at *
   have HV:=zh hv
   clear hv
   have kn:(k:Int)<(m:Int):=by omega
   go_wp2_with fail
   go_quiet (first|(go_at_call 59;refine Calls.quiet_of_same ((zu OFC) _))|(go_at_call 111;refine Calls.quiet_of_same (sAdd v z c _ AM l3 SC)))
   have O1:=zh (show Own3 184 (wr.drewN nq) w.heap.size gO out.length cO out from zu HO)
   have B1:=zh (below_drewN (zu HB) nq)
   have d1:(wr.drewN nq).cell? ⟨gL,k*3,none⟩=some (.int .i64 x):=e1
   have d2:(wr.drewN nq).cell? ⟨gL,k*3+1,none⟩=some (.int .i64 y):=e2
   clear HO HB e1 e2 e3 OFC
   generalize wr.drewN nq=u at *
   have gol:=(zu O1).lt.2
   have bs:=(zu B1).size
   cases c
   ·have P0:=zh (IsPost.large (zu ALL) (zu EV) ((zu PN) SC.no))
    have A1:=zh ((zu H).below (zu B1) hg)
    clear PY PN FU d1 d2
    have bq:=(zu B1).size
    have Z:=zh (lit30 184 u w.heap.size bq)
    have A5:=zh ((zu A1).below (one_more u (.cells #[] 184)) (by omega))
    go_wp2_with (first|(at_builtin;refine BalApp.wp_copy _ rfl _ _ rfl w.heap.size u.heap.size n 0 ps g cap rfl rfl (zu Z) hp (zu A5) (by omega) (by simp;omega) ?_)|go_in)
    intro g6 c6 w6 o6 gr6 _
    have O6:=zh o6
    have B6:=zh (((zu B1).alloc bq (.cells #[] 184)).grown gr6 (by simp;omega) (fun j hj=>by cases hj;exact bq))
    clear o6 gr6
    go_wp2
    go_ret2
    exact⟨ps,4,g6,c6,zu P0,by rw[hp];rfl,by rw[hp];exact zu O6,zu B6⟩
   ·have YES:=zh ((zu PY) SC.yes)
    have FN2:=zh ((zu FU) SC.yes)
    clear PY PN FU
    have e0:sumIn v z true=v+z:=rfl
    rw[e0]
    clear e0
    generalize hS:v+z=S at *
    clear hS
    obtain⟨p0,hp0⟩:∃p0:Bool,(S==0)=p0:=⟨_,rfl⟩
    have PV:=zh (put_val (x,y,S) out p0 (zu GD) (by rw[←hp0];simp))
    have LN:=zh (putL_len (x,y,S) out p0)
    have HP:=zh hp0
    clear hp0
    have k0:(0:Int)≤(k:Int):=by omega
    have gLu:gL<u.heap.size:=by omega
    go_wp2_with fail
    go_region_held3 (fun w'=>w'.cell? ⟨gL,k*3,none⟩=some (.int .i64 x)∧w'.cell? ⟨gL,k*3+1,none⟩=some (.int .i64 y)) (go_keep)
     (first|(go_at_call 103;refine(sPut _ gO out.length cO out x y S p0 rfl (by omega) (by exact gol) (by exact(zu O1).at) (zu HP)).mono ?_;rintro e w5 ⟨g5,c5,rfl,o5,n5⟩;have h1:w5.cell? ⟨gL,k*3,none⟩=some (.int .i64 x):=(n5.cell (p:=⟨gL,k*3,none⟩) (by exact gLu)).trans (by exact d1);have h2:w5.cell? ⟨gL,k*3+1,none⟩=some (.int .i64 y):=(n5.cell (p:=⟨gL,k*3+1,none⟩) (by exact gLu)).trans (by exact d2)))
    have O5:=zh (o5.rebase (base':=w.heap.size) (by have:u.heap.size≤g5:=o5.lt.1;omega))
    have B5:=zh (next (zu B1) (show Below u.heap.size u w5 from⟨n5.os,n5.tape,n5.output,n5.size,n5.block⟩))
    have VE:val (putL (x,y,S) out p0)=upd (val out) x y S:=funext fun b=>funext fun j=>(zu PV).2 b j
    have FN3:=zh (show Fine (val (putL (x,y,S) out p0)) from by rw[VE];exact zu FN2)
    have YE3:=zh (show posts (val ps) ls=posts (val (putL (x,y,S) out p0)) (ls.drop (k+1)) from by rw[VE];exact zu YES)
    have LL:(putL (x,y,S) out p0).length≤out.length+1:=by have:=zu LN;split at this<;>omega
    have GD3:=zh (zu PV).1
    clear o5 n5 VE PV LN YES FN2 d1 d2 O1 B1
    generalize putL (x,y,S) out p0=qs at *
    go_wp2
    go_roundw
    case rel=>exact⟨qs,g5,c5,k+1,rfl,by go_num,by omega,by omega,O5,B5,GD3,FN3,YE3⟩
    case measure=>simp[intOf];omega
  ·obtain rfl:k=m:=by omega
   have EP:=zh (show posts (val ps) ls=some (val out) from by rw[zu HE,List.drop_of_length_le (by omega)];rfl)
   have LO:=zh (show ListOf (val out) out from⟨zu GD,fun _ _=>rfl⟩)
   clear HE
   go_wp2
   generalize wr=w8 at *
   go_loopw [13] (fun j wr=>∃(i:Nat),j= .int .i64 i∧i≤k∧Hid (∃q,wr=w8.drewN q)∧Hid (∀j,j<i→¬(val out (el3 ls j).1 (el3 ls j).2.1<0∧(el3 ls j).1∉xs))) (fun j _=>k-(intOf j).toNat)
   case atStart=>exact⟨0,rfl,by omega,zh ⟨0,rfl⟩,zh (fun j hj=>by omega)⟩
   case round=>
    obtain⟨i,rfl,hi,HQ,HG⟩:=hrel
    obtain⟨q8,e8⟩:=zu HQ
    have O1:=zh (show Own3 184 wr w.heap.size gO out.length cO out from by rw[e8];exact zu HO)
    have B1:=zh (show Below w.heap.size w wr from by rw[e8];exact below_drewN (zu HB) q8)
    clear e8
    have gol:=(zu O1).lt.2
    have bs:=(zu B1).size
    by_cases t:i<k
    ·obtain⟨e1,e2,e3⟩:=(zu HL).below (zu B1) hgL i (by omega)
     obtain⟨c,SC⟩:=says_of ((el3 ls i).1∈xs)
     have YES:=zh (show val out (el3 ls i).1 (el3 ls i).2.1<0∧(el3 ls i).1∉xs→Lacks (val out) ls xs from fun q=>⟨i,by omega,q.1,q.2⟩)
     have GO:=zh (show ¬(val out (el3 ls i).1 (el3 ls i).2.1<0∧(el3 ls i).1∉xs)→∀j,j<i+1→¬(val out (el3 ls j).1 (el3 ls j).2.1<0∧(el3 ls j).1∉xs) from fun q j hj=>by
      by_cases e:j=i
      ·subst e;exact q
      ·exact(zu HG) j (by omega))
     have OFC:=zh (fun q=>sOf (wr.drewN q) gO out.length cO out (el3 ls i).1 (el3 ls i).2.1 rfl (by omega) (at_drewN (zu O1).at q))
     have HAC:=zh (fun q=>sHas (wr.drewN q) gS s capS xs (el3 ls i).1 c hs s20 (ints_drewN ((zu HX).below (zu B1) hgS) q) SC)
     generalize (el3 ls i).1=x at *
     generalize (el3 ls i).2.1=y at *
     generalize (el3 ls i).2.2=z at *
     generalize hv:val out x y=v at *
     have HV:=zh hv
     clear hv
     have kn:(i:Int)<(k:Int):=by omega
     by_cases v0:v<0
     ·cases c
      ·have P0:=zh (IsPost.short (val out) (zu ALL) (zu EV) (zu EP) ((zu YES) ⟨v0,SC.no⟩))
       clear YES GO
       go_wp2_with fail
       go_quiet (first|(go_at_call 59;refine Calls.quiet_of_same ((zu OFC) _))|(go_at_call 102;refine Calls.quiet_of_same ((zu HAC) _)))
       have B2:=zh (below_drewN (zu B1) nq)
       clear O1 B1 e1 e2 e3 OFC HAC
       generalize wr.drewN nq=u at *
       have A1:=zh ((zu H).below (zu B2) hg)
       have bu:=(zu B2).size
       have bq:=(zu B2).size
       have Z:=zh (lit30 184 u w.heap.size bq)
       have A5:=zh ((zu A1).below (one_more u (.cells #[] 184)) (by omega))
       go_wp2_with (first|(at_builtin;refine BalApp.wp_copy _ rfl _ _ rfl w.heap.size u.heap.size n 0 ps g cap rfl rfl (zu Z) hp (zu A5) (by omega) (by simp;omega) ?_)|go_in)
       intro g6 c6 w6 o6 gr6 _
       have O6:=zh o6
       have B6:=zh (((zu B2).alloc bq (.cells #[] 184)).grown gr6 (by simp;omega) (fun j hj=>by cases hj;exact bq))
       clear o6 gr6
       go_wp2
       go_ret2
       exact⟨ps,3,g6,c6,zu P0,by rw[hp];rfl,by rw[hp];exact zu O6,zu B6⟩
      ·have G:=zh ((zu GO) (fun q=>q.2 SC.yes))
       clear YES GO
       go_wp2_with fail
       go_quiet (first|(go_at_call 59;refine Calls.quiet_of_same ((zu OFC) _))|(go_at_call 102;refine Calls.quiet_of_same ((zu HAC) _)))
       go_wp2
       go_roundw
       case rel=>exact⟨i+1,by go_num,by omega,zh (drewN_more (zu HQ) _),G⟩
       case measure=>simp[intOf];omega
     ·have G:=zh ((zu GO) (fun q=>v0 q.1))
      have v0b:decide (v<0)=false:=decide_eq_false v0
      clear YES GO
      go_wp2_with fail
      go_quiet (first|(go_at_call 59;refine Calls.quiet_of_same ((zu OFC) _)))
      go_wp2
      go_roundw
      case rel=>exact⟨i+1,by go_num,by omega,zh (drewN_more (zu HQ) _),G⟩
      case measure=>simp[intOf];omega
    ·obtain rfl:i=k:=by omega
     have NL:=zh (show ¬Lacks (val out) ls xs from fun r=>by
      obtain⟨j,hj,q⟩:=r
      exact(zu HG) j (by omega) q)
     by_cases ln:out.length≤160
     ·have ln2:¬(160:Int)<(out.length:Int):=by omega
      have P0:=zh (IsPost.done (val out) out (zu ALL) (zu EV) (zu EP) (zu NL) (zu LO) ln)
      go_wp2
      go_ret2
      exact⟨out,0,gO,cO,zu P0,rfl,zu O1,zu B1⟩
     ·have ln2:(160:Int)<(out.length:Int):=by omega
      have P0:=zh (IsPost.full (val out) out (zu ALL) (zu EV) (zu EP) (zu NL) (zu LO) ln)
      have A1:=zh ((zu H).below (zu B1) hg)
      have bq:=(zu B1).size
      have Z:=zh (lit30 184 wr w.heap.size bq)
      have A5:=zh ((zu A1).below (one_more wr (.cells #[] 184)) (by omega))
      go_wp2_with (first|(at_builtin;refine BalApp.wp_copy _ rfl _ _ rfl w.heap.size wr.heap.size n 0 ps g cap rfl rfl (zu Z) hp (zu A5) (by omega) (by simp;omega) ?_)|go_in)
      intro g6 c6 w6 o6 gr6 _
      have O6:=zh o6
      have B6:=zh (((zu B1).alloc bq (.cells #[] 184)).grown gr6 (by simp;omega) (fun j hj=>by cases hj;exact bq))
      clear o6 gr6
      go_wp2
      go_ret2
      exact⟨ps,5,g6,c6,zu P0,by rw[hp];rfl,by rw[hp];exact zu O6,zu B6⟩
end SPost
end Go.Proofs.YtcjgepkdpkhljaaGreat
