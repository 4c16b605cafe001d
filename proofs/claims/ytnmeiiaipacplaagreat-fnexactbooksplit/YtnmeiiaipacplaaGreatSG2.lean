/- Texts of one proof, one behind the other: SOk5, ITrade, Cmp, IOk3, CmpL, IOk5, ILists, Tab, SOk3, Look, IBalsFit, AccountHelp, AccountMark, InstrHelp, InstrMark, BalHelp, BalHeld. -/
import Derived.Test.YtnmeiiaipacplaaGreatRows
import Derived.Test.YtnmeiiaipacplaaGreatSG1
import Derived.WalkSmall
import Derived.Deep.RegionHeld3
import Derived.Sort.Grow
import Derived.Laws.StructEq
import Derived.Maps.OwnOps
import Derived.Maps.RangeWalk
import Derived.Maps.Ext
import Derived.DeepKeys4
set_option linter.unusedVariables false
set_option linter.unusedSimpArgs false
open Go.ChangeShapes Go.WideShapes Go.ChangeAt Go.RowKit
set_option maxRecDepth 100000
set_option maxHeartbeats 32000000
namespace Go.Proofs.YtnmeiiaipacplaaGreat
namespace SOk5
open Tup5 Lots Quieter
theorem sIn(x lo hi:Int)(b:Bool)(w:World)(hb:Says b (lo≤x∧x≤hi)):
  Calls Tryz.prog 70 #[.int .i64 x,.int .i64 lo,.int .i64 hi] w fun e w'=>e= .returned (.bool b)∧w'=w:=by
 by_cases h1:lo≤x
 ·by_cases h2:x≤hi
  ·obtain rfl:b=true:=hb.of ⟨h1,h2⟩
   clear hb
   go_enter Tryz.func70,Tryz.ntmps70
   go_wp2
   go_ret
   exact⟨rfl,rfl⟩
  ·obtain rfl:b=false:=hb.not (fun r=>h2 r.2)
   clear hb
   go_enter Tryz.func70,Tryz.ntmps70
   go_wp2
   go_ret
   exact⟨rfl,rfl⟩
 ·obtain rfl:b=false:=hb.not (fun r=>h1 r.1)
  clear hb
  go_enter Tryz.func70,Tryz.ntmps70
  go_wp2
  go_ret
  exact⟨rfl,rfl⟩
theorem sNo(x:Int)(b:Bool)(w:World)(hb:Says b (NoOk x)):
  Calls Tryz.prog 29 #[.int .i64 x] w fun e w'=>e= .returned (.bool b)∧w'=w:=by
 go_enter Tryz.func29,Tryz.ntmps29
 go_wp2_with fail
 refine(sIn x 1 1000 b _ hb).mono ?_
 rintro e w' ⟨rfl,rfl⟩
 go_wp2
 go_ret
 exact⟨rfl,rfl⟩
theorem sAmt(x:Int)(b:Bool)(w:World)(hb:Says b (Amt x)):
  Calls Tryz.prog 67 #[.int .i64 x] w fun e w'=>e= .returned (.bool b)∧w'=w:=by
 go_enter Tryz.func67,Tryz.ntmps67
 go_wp2_with fail
 refine(sIn x (-1000000000000000) 1000000000000000 b _ hb).mono ?_
 rintro e w' ⟨rfl,rfl⟩
 go_wp2
 go_ret
 exact⟨rfl,rfl⟩
theorem sBefore(a i c j:Int)(b:Bool)(w:World)(hb:Says b (a<c∨(a=c∧i<j))):
  Calls Tryz.prog 133 #[.int .i64 a,.int .i64 i,.int .i64 c,.int .i64 j] w fun e w'=>e= .returned (.bool b)∧w'=w:=by
 by_cases h1:a<c
 ·obtain rfl:b=true:=hb.of (.inl h1)
  clear hb
  go_enter Tryz.func133,Tryz.ntmps133
  go_wp2
  go_ret
  exact⟨rfl,rfl⟩
 ·by_cases h2:a=c
  ·subst h2
   by_cases h3:i<j
   ·obtain rfl:b=true:=hb.of (.inr ⟨rfl,h3⟩)
    clear hb
    go_enter Tryz.func133,Tryz.ntmps133
    go_wp2
    go_ret
    exact⟨rfl,rfl⟩
   ·obtain rfl:b=false:=hb.not (fun r=>by omega)
    clear hb
    go_enter Tryz.func133,Tryz.ntmps133
    go_wp2
    go_ret
    exact⟨rfl,rfl⟩
  ·obtain rfl:b=false:=hb.not (fun r=>by omega)
   clear hb
   go_enter Tryz.func133,Tryz.ntmps133
   go_wp2
   go_ret
   exact⟨rfl,rfl⟩
theorem sSome(x lo:Int)(b:Bool)(w:World)(hb:Says b (lo≤x∧x≤1000000000000000)):
  Calls Tryz.prog 30 #[.int .i64 x,.int .i64 lo] w fun e w'=>e= .returned (.bool b)∧w'=w:=by
 go_enter Tryz.func30,Tryz.ntmps30
 go_wp2_with fail
 refine(sIn x lo 1000000000000000 b _ hb).mono ?_
 rintro e w' ⟨rfl,rfl⟩
 go_wp2
 go_ret
 exact⟨rfl,rfl⟩
theorem one_more(w:World)(o:Obj):Below w.heap.size w (w.alloc o):=(Below.refl _ _).alloc (Nat.le_refl _) _
theorem two_more(w:World)(o p:Obj):Below w.heap.size w ((w.alloc o).alloc p):=((Below.refl _ _).alloc (Nat.le_refl _) _).alloc (by simp) _
theorem sRight(x0 x1 x2 x3 x4:Int)(b:Bool)(w:World)(hb:Says b (One (x0,x1,x2,x3,x4))):
  Calls Tryz.prog 134 #[.agg #[.int .i64 x0,.int .i64 x1,.int .i64 x2,.int .i64 x3,.int .i64 x4]] w fun e w'=>e= .returned (.bool b)∧Below w.heap.size w w':=by
 obtain⟨b1,B1⟩:=says_of (NoOk x0)
 obtain⟨b2,B2⟩:=says_of (NoOk x1)
 obtain⟨b3,B3⟩:=says_of (1≤x2∧x2≤1000000000)
 obtain⟨b4,B4⟩:=says_of (1≤x3∧x3≤1000000000000000)
 obtain⟨b5,B5⟩:=says_of (0≤x4∧x4≤1000000000000000)
 have NB:=zh (one_more w (.cells #[.int .i64 x0,.int .i64 x1,.int .i64 x2,.int .i64 x3,.int .i64 x4] 123))
 cases b1
 ·obtain rfl:b=false:=hb.not (fun r=>B1.no r.1)
  clear hb
  go_enter Tryz.func134,Tryz.ntmps134
  go_wp2_with (first|(go_at_call 29;refine(sNo _ false _ B1).mono ?_;rintro e w1 ⟨rfl,rfl⟩))
  go_ret
  first|exact⟨rfl,zu NB⟩|exact⟨by rw[decide_eq_false (show ¬x2<y2 by omega)];rfl,zu NB⟩
 cases b2
 ·obtain rfl:b=false:=hb.not (fun r=>B2.no r.2.1)
  clear hb
  go_enter Tryz.func134,Tryz.ntmps134
  go_wp2_with (first|(go_at_call 29;refine(sNo _ true _ B1).mono ?_;rintro e w1 ⟨rfl,rfl⟩)|(go_at_call 29;refine(sNo _ false _ B2).mono ?_;rintro e w1 ⟨rfl,rfl⟩))
  go_ret
  first|exact⟨rfl,zu NB⟩|exact⟨by rw[decide_eq_false (show ¬x2<y2 by omega)];rfl,zu NB⟩
 cases b3
 ·obtain rfl:b=false:=hb.not (fun r=>B3.no r.2.2.1)
  clear hb
  go_enter Tryz.func134,Tryz.ntmps134
  go_wp2_with (first|(go_at_call 29;refine(sNo _ true _ B1).mono ?_;rintro e w1 ⟨rfl,rfl⟩)|(go_at_call 29;refine(sNo _ true _ B2).mono ?_;rintro e w1 ⟨rfl,rfl⟩)|(go_at_call 70;refine(sIn _ _ _ false _ B3).mono ?_;rintro e w1 ⟨rfl,rfl⟩))
  go_ret
  first|exact⟨rfl,zu NB⟩|exact⟨by rw[decide_eq_false (show ¬x2<y2 by omega)];rfl,zu NB⟩
 cases b4
 ·obtain rfl:b=false:=hb.not (fun r=>B4.no r.2.2.2.1)
  clear hb
  go_enter Tryz.func134,Tryz.ntmps134
  go_wp2_with (first|(go_at_call 29;refine(sNo _ true _ B1).mono ?_;rintro e w1 ⟨rfl,rfl⟩)|(go_at_call 29;refine(sNo _ true _ B2).mono ?_;rintro e w1 ⟨rfl,rfl⟩)|(go_at_call 70;refine(sIn _ _ _ true _ B3).mono ?_;rintro e w1 ⟨rfl,rfl⟩)|(go_at_call 30;refine(sSome _ _ false _ B4).mono ?_;rintro e w1 ⟨rfl,rfl⟩))
  go_ret
  first|exact⟨rfl,zu NB⟩|exact⟨by rw[decide_eq_false (show ¬x2<y2 by omega)];rfl,zu NB⟩
 obtain rfl:b5=b:=by
  cases b5
  ·exact(hb.not (fun r=>B5.no r.2.2.2.2)).symm
  ·exact(hb.of ⟨B1.yes,B2.yes,B3.yes,B4.yes,B5.yes⟩).symm
 clear hb
 go_enter Tryz.func134,Tryz.ntmps134
 go_wp2_with (first|(go_at_call 29;refine(sNo _ true _ B1).mono ?_;rintro e w1 ⟨rfl,rfl⟩)|(go_at_call 29;refine(sNo _ true _ B2).mono ?_;rintro e w1 ⟨rfl,rfl⟩)|(go_at_call 70;refine(sIn _ _ _ true _ B3).mono ?_;rintro e w1 ⟨rfl,rfl⟩)|(go_at_call 30;refine(sSome _ _ true _ B4).mono ?_;rintro e w1 ⟨rfl,rfl⟩)|(go_at_call 30;refine(sSome _ _ _ _ B5).mono ?_;rintro e w1 ⟨rfl,rfl⟩))
 go_ret
 first|exact⟨rfl,zu NB⟩|exact⟨by rw[decide_eq_false (show ¬x2<y2 by omega)];rfl,zu NB⟩
theorem sBef(x0 x1 x2 x3 x4 y0 y1 y2 y3 y4:Int)(b:Bool)(w:World)(hb:Says b (Bef (x0,x1,x2,x3,x4) (y0,y1,y2,y3,y4))):
  Calls Tryz.prog 135 #[.agg #[.int .i64 x0,.int .i64 x1,.int .i64 x2,.int .i64 x3,.int .i64 x4],.agg #[.int .i64 y0,.int .i64 y1,.int .i64 y2,.int .i64 y3,.int .i64 y4]] w fun e w'=>e= .returned (.bool b)∧Below w.heap.size w w':=by
 obtain⟨b1,B1⟩:=says_of (x0<y0∨(x0=y0∧x1<y1))
 have NB:=zh (two_more w (.cells #[.int .i64 x0,.int .i64 x1,.int .i64 x2,.int .i64 x3,.int .i64 x4] 123) (.cells #[.int .i64 y0,.int .i64 y1,.int .i64 y2,.int .i64 y3,.int .i64 y4] 123))
 have BB:b=true↔(x0<y0∨(x0=y0∧(x1<y1∨(x1=y1∧x2<y2)))):=hb
 clear hb
 cases b1
 ·have n1:=B1.no
  by_cases e0:x0=y0
  ·subst e0
   by_cases e1:x1=y1
   ·subst e1
    by_cases l2:x2<y2
    ·skip
     obtain rfl:b=true:=BB.2 (by omega)
     clear BB n1
     go_enter Tryz.func135,Tryz.ntmps135
     go_wp2_with (go_at_call 133;refine(sBefore _ _ _ _ false _ B1).mono ?_;rintro e w1 ⟨rfl,rfl⟩)
     go_ret
     first|exact⟨rfl,zu NB⟩|exact⟨by rw[decide_eq_false (show ¬x2<y2 by omega)];rfl,zu NB⟩
    ·skip
     obtain rfl:b=false:=by
      cases b
      ·rfl
      ·have:=BB.1 rfl
       omega
     clear BB n1
     go_enter Tryz.func135,Tryz.ntmps135
     go_wp2_with (go_at_call 133;refine(sBefore _ _ _ _ false _ B1).mono ?_;rintro e w1 ⟨rfl,rfl⟩)
     go_ret
     first|exact⟨rfl,zu NB⟩|exact⟨by rw[decide_eq_false (show ¬x2<y2 by omega)];rfl,zu NB⟩
   ·skip
    obtain rfl:b=false:=by
     cases b
     ·rfl
     ·have:=BB.1 rfl
      omega
    clear BB n1
    go_enter Tryz.func135,Tryz.ntmps135
    go_wp2_with (go_at_call 133;refine(sBefore _ _ _ _ false _ B1).mono ?_;rintro e w1 ⟨rfl,rfl⟩)
    go_ret
    first|exact⟨rfl,zu NB⟩|exact⟨by rw[decide_eq_false (show ¬x2<y2 by omega)];rfl,zu NB⟩
  ·skip
   obtain rfl:b=false:=by
    cases b
    ·rfl
    ·have:=BB.1 rfl
     omega
   clear BB n1
   go_enter Tryz.func135,Tryz.ntmps135
   go_wp2_with (go_at_call 133;refine(sBefore _ _ _ _ false _ B1).mono ?_;rintro e w1 ⟨rfl,rfl⟩)
   go_ret
   first|exact⟨rfl,zu NB⟩|exact⟨by rw[decide_eq_false (show ¬x2<y2 by omega)];rfl,zu NB⟩
 ·have n1:=B1.yes
  obtain rfl:b=true:=BB.2 (by omega)
  clear BB n1
  go_enter Tryz.func135,Tryz.ntmps135
  go_wp2_with (go_at_call 133;refine(sBefore _ _ _ _ true _ B1).mono ?_;rintro e w1 ⟨rfl,rfl⟩)
  go_ret
  first|exact⟨rfl,zu NB⟩|exact⟨by rw[decide_eq_false (show ¬x2<y2 by omega)];rfl,zu NB⟩
theorem sOk(w:World)(g n cap:Nat)(ps:List T5)(ok:Bool)(hl:ps.length=n)(h20:n≤1048576)(hg:g<w.heap.size)(h:At5 w g ps)(hok:Says ok (Right ps)):
  Calls Tryz.prog 86 #[.slice (some ⟨g,0,none⟩) n cap] w fun e w'=>e= .returned (.bool ok)∧Below w.heap.size w w':=by
 by_cases nn:(120:Int)<(n:Int)
 ·obtain rfl:ok=false:=hok.not (fun r=>by have:=r.1;omega)
  clear hok h
  go_enter Tryz.func86,Tryz.ntmps86
  go_wp2
  go_ret
  exact⟨rfl,Below.refl _ _⟩
 have H:=zh h
 clear h
 go_enter Tryz.func86,Tryz.ntmps86
 go_wp2
 go_loopw [3,4,5,6] (fun q c i _ wr=>∃(k:Nat) (sq sc:Int),k≤n∧i= .int .i64 k∧q= .int .i64 sq∧c= .int .i64 sc∧0≤sq∧sq≤1000000000000000∧0≤sc∧sc≤1000000000000000∧Below w.heap.size w wr∧Hid (∀i,i<k→RowOk ps i∧(run ps i).1≤1000000000000000∧(run ps i).2≤1000000000000000)∧Hid (0<k→(sq,sc)=run ps (k-1))) (fun _ _ i _ _=>n-(intOf i).toNat)
 case atStart=>exact⟨0,0,0,by omega,rfl,rfl,rfl,by omega,by omega,by omega,by omega,Below.refl _ _,zh (fun i hi=>absurd hi (by omega)),zh (fun h0=>absurd h0 (by omega))⟩
 case round=>
  obtain⟨k,sq,sc,hk,rfl,rfl,rfl,sq0,sq1,sc0,sc1,hb,HG,HS⟩:=hrel
  by_cases t:k<n
  ·have hA:=(zu H).below hb hg
   obtain⟨e0,e1,e2,e3,e4⟩:=hA k (by omega)
   have ED:0<k→Holds5 wr g ((k-1)*5) (el5 ps (k-1)):=fun k0=>hA (k-1) (by omega)
   have gs:g<wr.heap.size:=Nat.lt_of_lt_of_le hg hb.size
   have gne:g≠wr.heap.size:=by omega
   clear hA
   have HB:=zh hb
   clear hb
   have ROW:=zh (show RowOk ps k↔One ((el5 ps k).1,(el5 ps k).2.1,(el5 ps k).2.2.1,(el5 ps k).2.2.2.1,(el5 ps k).2.2.2.2)∧(0<k→Bef ((el5 ps (k-1)).1,(el5 ps (k-1)).2.1,(el5 ps (k-1)).2.2.1,(el5 ps (k-1)).2.2.2.1,(el5 ps (k-1)).2.2.2.2) ((el5 ps k).1,(el5 ps k).2.1,(el5 ps k).2.2.1,(el5 ps k).2.2.2.1,(el5 ps k).2.2.2.2)) from Iff.rfl)
   have RUN:=zh (show RowOk ps k→run ps k=(if k=0∨(el5 ps k).1≠(el5 ps (k-1)).1∨(el5 ps k).2.1≠(el5 ps (k-1)).2.1 then((el5 ps k).2.2.2.1,(el5 ps k).2.2.2.2) else(sq+(el5 ps k).2.2.2.1,sc+(el5 ps k).2.2.2.2)) from fun hr=>by
    rw[run_next (by omega) (fun i hi=>by
     by_cases e:i=k
     ·subst e;exact hr
     ·exact((zu HG) i (by omega)).1)]
    by_cases c:k=0∨(el5 ps k).1≠(el5 ps (k-1)).1∨(el5 ps k).2.1≠(el5 ps (k-1)).2.1
    ·rw[if_pos c,if_pos c]
    ·rw[if_neg c,if_neg c,←(zu HS) (by omega)])
   have BAD:=zh (show ¬(RowOk ps k∧(run ps k).1≤1000000000000000∧(run ps k).2≤1000000000000000)→ok=false from fun hr=>hok.not (fun r=>hr ((right_iff ps (by omega)).1 r k (by omega))))
   have GOOD:=zh (show RowOk ps k∧(run ps k).1≤1000000000000000∧(run ps k).2≤1000000000000000→∀i,i<k+1→RowOk ps i∧(run ps i).1≤1000000000000000∧(run ps i).2≤1000000000000000 from fun hr i hi=>by
    by_cases e:i=k
    ·subst e;exact hr
    ·exact(zu HG) i (by omega))
   obtain⟨rq,rc,RQ⟩:∃rq rc,Hid (run ps k=(rq,rc)):=⟨_,_,rfl⟩
   rw[zu RQ] at RUN BAD GOOD
   clear HG HS
   generalize (el5 ps k).1=x0 at *
   generalize (el5 ps k).2.1=x1 at *
   generalize (el5 ps k).2.2.1=x2 at *
   generalize (el5 ps k).2.2.2.1=x3 at *
   generalize (el5 ps k).2.2.2.2=x4 at *
   obtain⟨u0,u1,u2,u3,u4,EU⟩:∃u0 u1 u2 u3 u4,el5 ps (k-1)=(u0,u1,u2,u3,u4):=⟨_,_,_,_,_,rfl⟩
   rw[EU] at ROW RUN ED
   clear EU
   obtain⟨b1,B1⟩:=says_of (One (x0,x1,x2,x3,x4))
   have ONE:=zh (one_more wr (.cells #[.int .i64 x0,.int .i64 x1,.int .i64 x2,.int .i64 x3,.int .i64 x4] 123))
   have SL:wr.heap.size<(wr.alloc (.cells #[.int .i64 x0,.int .i64 x1,.int .i64 x2,.int .i64 x3,.int .i64 x4] 123)).heap.size:=by simp
   obtain⟨f0,f1,f2,f3,f4⟩:Holds5 (wr.alloc (.cells #[.int .i64 x0,.int .i64 x1,.int .i64 x2,.int .i64 x3,.int .i64 x4] 123)) wr.heap.size 0 (x0,x1,x2,x3,x4):=by unfold Holds5;simp
   have ED1:=zh (show 0<k→Holds5 (wr.alloc (.cells #[.int .i64 x0,.int .i64 x1,.int .i64 x2,.int .i64 x3,.int .i64 x4] 123)) g ((k-1)*5) (u0,u1,u2,u3,u4) from fun k0=>(ED k0).below (zu ONE) gs)
   have HB1:=zh (next (zu HB) (zu ONE))
   clear ED ONE
   go_wp2_with fail
   generalize wr.alloc (.cells #[.int .i64 x0,.int .i64 x1,.int .i64 x2,.int .i64 x3,.int .i64 x4] 123)=u at *
   generalize wr.heap.size=yb at *
   have C0:∀n:Near u,n.u.cell? ⟨yb,0,none⟩=some (.int .i64 x0):=fun n=>(n.b.cell (p:=⟨yb,0,none⟩) SL).trans f0
   have C1:∀n:Near u,n.u.cell? ⟨yb,1,none⟩=some (.int .i64 x1):=fun n=>(n.b.cell (p:=⟨yb,1,none⟩) SL).trans f1
   have C2:∀n:Near u,n.u.cell? ⟨yb,2,none⟩=some (.int .i64 x2):=fun n=>(n.b.cell (p:=⟨yb,2,none⟩) SL).trans f2
   have C3:∀n:Near u,n.u.cell? ⟨yb,3,none⟩=some (.int .i64 x3):=fun n=>(n.b.cell (p:=⟨yb,3,none⟩) SL).trans f3
   have C4:∀n:Near u,n.u.cell? ⟨yb,4,none⟩=some (.int .i64 x4):=fun n=>(n.b.cell (p:=⟨yb,4,none⟩) SL).trans f4
   have near:=near_is u
   cases b1
   ·have OKF:=zh ((zu BAD) (fun hr=>B1.no ((zu ROW).1 hr.1).1))
    clear BAD GOOD ROW RUN ED1
    refine quiet_near (by kernel_rfl) (by kernel_rfl) ?_
    repeat(go_big_quiet_step (first
     |(go_at_call 134
       rename_i nn
       refine(sRight x0 x1 x2 x3 x4 false nn.u B1).mono ?_
       rintro e u6 ⟨rfl,b6⟩
       exact⟨rfl,⟨u6,next nn.b b6⟩,rfl⟩)))
    refine wpQuiet_nil ?_
    rintro u9 ⟨⟨_,b9⟩,rfl⟩
    go_wp2
    go_ret
    exact⟨by rw[zu OKF];rfl,next (zu HB1) b9⟩
   have o:=B1.yes
   obtain⟨_,_,_,⟨x3l,x3h⟩,x4l,x4h⟩:NoOk x0∧NoOk x1∧(1≤x2∧x2≤1000000000)∧(1≤x3∧x3≤1000000000000000)∧(0≤x4∧x4≤1000000000000000):=o
   by_cases k0:k=0
   ·subst k0
    have RK:=zh ((zu ROW).2 ⟨B1.yes,fun h0=>absurd h0 (by omega)⟩)
    clear ED1
    refine quiet_near (by kernel_rfl) (by kernel_rfl) ?_
    repeat(go_big_quiet_step (first
     |(go_at_call 134
       rename_i nn
       refine(sRight x0 x1 x2 x3 x4 true nn.u B1).mono ?_
       rintro e u6 ⟨rfl,b6⟩
       exact⟨rfl,⟨u6,next nn.b b6⟩,rfl⟩)))
    refine wpQuiet_nil ?_
    rintro u9 ⟨⟨_,b9⟩,rfl⟩
    have f3:u9.cell? ⟨yb,3,none⟩=some (.int .i64 x3):=(b9.cell (p:=⟨yb,3,none⟩) SL).trans f3
    have f4:u9.cell? ⟨yb,4,none⟩=some (.int .i64 x4):=(b9.cell (p:=⟨yb,4,none⟩) SL).trans f4
    have BB:=zh (next (zu HB1) b9)
    clear b9 C0 C1 C2 C3 C4 near
    obtain⟨b3,B3⟩:=says_of (Amt (x3))
    obtain⟨b4,B4⟩:=says_of (Amt (x4))
    have RE:=zh (show(rq,rc)=(x3,x4) from by rw[(zu RUN) (zu RK),if_pos (.inl rfl)])
    go_wp2_with fail
    go_quiet (fail)
    go_wp2_with fail
    refine(sAmt (x3) b3 _ B3).mono ?_
    rintro e w3 ⟨rfl,rfl⟩
    cases b3
    ·have OKF:=zh ((zu BAD) (fun hr=>B3.no (by have e:=congrArg Prod.fst (zu RE);have:=hr.2.1;unfold Amt;simp only at e;omega)))
     clear BAD GOOD ROW RUN RE
     go_wp2
     go_ret
     exact⟨by rw[zu OKF];rfl,below_drewN (zu BB) _⟩
    go_wp2_with fail
    refine(sAmt (x4) b4 _ B4).mono ?_
    rintro e w4 ⟨rfl,rfl⟩
    cases b4
    ·have OKF:=zh ((zu BAD) (fun hr=>B4.no (by have e:=congrArg Prod.snd (zu RE);have:=hr.2.2;unfold Amt;simp only at e;omega)))
     clear BAD GOOD ROW RUN RE
     go_wp2
     go_ret
     exact⟨by rw[zu OKF];rfl,below_drewN (zu BB) _⟩
    have GO:=zh ((zu GOOD) ⟨zu RK,by have e:=congrArg Prod.fst (zu RE);have y:=B3.yes;unfold Amt at y;simp only at e;omega,by have e:=congrArg Prod.snd (zu RE);have y:=B4.yes;unfold Amt at y;simp only at e;omega⟩)
    have y3:=B3.yes.2
    have y4:=B4.yes.2
    clear BAD GOOD ROW RUN HB
    go_wp2
    go_roundw
    case rel=>exact⟨0+1,x3,x4,by omega,by go_num,rfl,rfl,by omega,by omega,by omega,by omega,below_drewN (zu BB) _,GO,zh (fun _=>by rw[show 0+1-1=0 by omega,zu RQ];exact(zu RE).symm)⟩
    case measure=>simp[intOf];omega
   ·have d:=(zu ED1) (by omega)
    have gu:g<u.heap.size:=by omega
    have D0:∀n:Near u,n.u.cell? ⟨g,(k-1)*5,none⟩=some (.int .i64 u0):=fun n=>(n.b.cell (p:=⟨g,(k-1)*5,none⟩) gu).trans d.1
    have D1:∀n:Near u,n.u.cell? ⟨g,(k-1)*5+1,none⟩=some (.int .i64 u1):=fun n=>(n.b.cell (p:=⟨g,(k-1)*5+1,none⟩) gu).trans d.2.1
    have D2:∀n:Near u,n.u.cell? ⟨g,(k-1)*5+2,none⟩=some (.int .i64 u2):=fun n=>(n.b.cell (p:=⟨g,(k-1)*5+2,none⟩) gu).trans d.2.2.1
    have D3:∀n:Near u,n.u.cell? ⟨g,(k-1)*5+3,none⟩=some (.int .i64 u3):=fun n=>(n.b.cell (p:=⟨g,(k-1)*5+3,none⟩) gu).trans d.2.2.2.1
    have D4:∀n:Near u,n.u.cell? ⟨g,(k-1)*5+4,none⟩=some (.int .i64 u4):=fun n=>(n.b.cell (p:=⟨g,(k-1)*5+4,none⟩) gu).trans d.2.2.2.2
    have HD:=zh d
    clear d ED1
    have kp:0<k:=by omega
    have kz:((k:Int)==0)=false:=by rw[beq_eq_false_iff_ne];omega
    have k1:(0:Int)<(k:Int):=by omega
    have k2:(0:Int)≤(k:Int) -1:=by omega
    have k3:((k:Int) -1).toNat=k-1:=by omega
    have k4:IntKind.i64.wrap ((k:Int) -1)=(k:Int) -1:=by rw[IntKind.wrap_i64];omega
    have k5:(k:Int) -1<(n:Int):=by omega
    obtain⟨b2,B2⟩:=says_of (Bef (u0,u1,u2,u3,u4) (x0,x1,x2,x3,x4))
    cases b2
    ·have OKF:=zh ((zu BAD) (fun hr=>B2.no (((zu ROW).1 hr.1).2 (by omega))))
     clear BAD GOOD ROW RUN
     refine quiet_near (by kernel_rfl) (by kernel_rfl) ?_
     repeat(go_big_quiet_step (first
      |(go_at_call 134
        rename_i nn
        refine(sRight x0 x1 x2 x3 x4 true nn.u B1).mono ?_
        rintro e u6 ⟨rfl,b6⟩
        exact⟨rfl,⟨u6,next nn.b b6⟩,rfl⟩)
      |(go_at_call 135
        rename_i nn
        refine(sBef u0 u1 u2 u3 u4 x0 x1 x2 x3 x4 false nn.u B2).mono ?_
        rintro e u6 ⟨rfl,b6⟩
        exact⟨rfl,⟨u6,next nn.b b6⟩,rfl⟩)))
     refine wpQuiet_nil ?_
     rintro u9 ⟨⟨_,b9⟩,rfl⟩
     go_wp2
     go_ret
     exact⟨by rw[zu OKF];rfl,next (zu HB1) b9⟩
    have RK:=zh ((zu ROW).2 ⟨B1.yes,fun _=>B2.yes⟩)
    refine quiet_near (by kernel_rfl) (by kernel_rfl) ?_
    repeat(go_big_quiet_step (first
     |(go_at_call 134
       rename_i nn
       refine(sRight x0 x1 x2 x3 x4 true nn.u B1).mono ?_
       rintro e u6 ⟨rfl,b6⟩
       exact⟨rfl,⟨u6,next nn.b b6⟩,rfl⟩)
     |(go_at_call 135
       rename_i nn
       refine(sBef u0 u1 u2 u3 u4 x0 x1 x2 x3 x4 true nn.u B2).mono ?_
       rintro e u6 ⟨rfl,b6⟩
       exact⟨rfl,⟨u6,next nn.b b6⟩,rfl⟩)))
    refine wpQuiet_nil ?_
    rintro u9 ⟨⟨_,b9⟩,rfl⟩
    have f0:u9.cell? ⟨yb,0,none⟩=some (.int .i64 x0):=(b9.cell (p:=⟨yb,0,none⟩) SL).trans f0
    have f1:u9.cell? ⟨yb,1,none⟩=some (.int .i64 x1):=(b9.cell (p:=⟨yb,1,none⟩) SL).trans f1
    have f3:u9.cell? ⟨yb,3,none⟩=some (.int .i64 x3):=(b9.cell (p:=⟨yb,3,none⟩) SL).trans f3
    have f4:u9.cell? ⟨yb,4,none⟩=some (.int .i64 x4):=(b9.cell (p:=⟨yb,4,none⟩) SL).trans f4
    have d0:u9.cell? ⟨g,(k-1)*5,none⟩=some (.int .i64 u0):=(b9.cell (p:=⟨g,(k-1)*5,none⟩) gu).trans (zu HD).1
    have d1:u9.cell? ⟨g,(k-1)*5+1,none⟩=some (.int .i64 u1):=(b9.cell (p:=⟨g,(k-1)*5+1,none⟩) gu).trans (zu HD).2.1
    have BB:=zh (next (zu HB1) b9)
    clear b9 C0 C1 C2 C3 C4 D0 D1 D2 D3 D4 near
    by_cases c0:x0=u0
    ·by_cases c1:x1=u1
     ·subst c0 c1
      obtain⟨b3,B3⟩:=says_of (Amt (sq+x3))
      obtain⟨b4,B4⟩:=says_of (Amt (sc+x4))
      have RE:=zh (show(rq,rc)=(sq+x3,sc+x4) from by rw[(zu RUN) (zu RK),if_neg (by omega)])
      go_wp2_with fail
      go_quiet (fail)
      go_wp2_with fail
      refine(sAmt (sq+x3) b3 _ B3).mono ?_
      rintro e w3 ⟨rfl,rfl⟩
      cases b3
      ·have OKF:=zh ((zu BAD) (fun hr=>B3.no (by have e:=congrArg Prod.fst (zu RE);have:=hr.2.1;unfold Amt;simp only at e;omega)))
       clear BAD GOOD ROW RUN RE
       go_wp2
       go_ret
       exact⟨by rw[zu OKF];rfl,below_drewN (zu BB) _⟩
      go_wp2_with fail
      refine(sAmt (sc+x4) b4 _ B4).mono ?_
      rintro e w4 ⟨rfl,rfl⟩
      cases b4
      ·have OKF:=zh ((zu BAD) (fun hr=>B4.no (by have e:=congrArg Prod.snd (zu RE);have:=hr.2.2;unfold Amt;simp only at e;omega)))
       clear BAD GOOD ROW RUN RE
       go_wp2
       go_ret
       exact⟨by rw[zu OKF];rfl,below_drewN (zu BB) _⟩
      have GO:=zh ((zu GOOD) ⟨zu RK,by have e:=congrArg Prod.fst (zu RE);have y:=B3.yes;unfold Amt at y;simp only at e;omega,by have e:=congrArg Prod.snd (zu RE);have y:=B4.yes;unfold Amt at y;simp only at e;omega⟩)
      have y3:=B3.yes.2
      have y4:=B4.yes.2
      clear BAD GOOD ROW RUN HB
      go_wp2
      go_roundw
      case rel=>exact⟨k+1,sq+x3,sc+x4,by omega,by go_num,rfl,rfl,by omega,by omega,by omega,by omega,below_drewN (zu BB) _,GO,zh (fun _=>by rw[show k+1-1=k by omega,zu RQ];exact(zu RE).symm)⟩
      case measure=>simp[intOf];omega
     ·have q1:(x1 !=u1)=true:=by simpa using c1
      obtain⟨b3,B3⟩:=says_of (Amt (x3))
      obtain⟨b4,B4⟩:=says_of (Amt (x4))
      have RE:=zh (show(rq,rc)=(x3,x4) from by rw[(zu RUN) (zu RK),if_pos (.inr (.inr c1))])
      go_wp2_with fail
      go_quiet (fail)
      go_wp2_with fail
      refine(sAmt (x3) b3 _ B3).mono ?_
      rintro e w3 ⟨rfl,rfl⟩
      cases b3
      ·have OKF:=zh ((zu BAD) (fun hr=>B3.no (by have e:=congrArg Prod.fst (zu RE);have:=hr.2.1;unfold Amt;simp only at e;omega)))
       clear BAD GOOD ROW RUN RE
       go_wp2
       go_ret
       exact⟨by rw[zu OKF];rfl,below_drewN (zu BB) _⟩
      go_wp2_with fail
      refine(sAmt (x4) b4 _ B4).mono ?_
      rintro e w4 ⟨rfl,rfl⟩
      cases b4
      ·have OKF:=zh ((zu BAD) (fun hr=>B4.no (by have e:=congrArg Prod.snd (zu RE);have:=hr.2.2;unfold Amt;simp only at e;omega)))
       clear BAD GOOD ROW RUN RE
       go_wp2
       go_ret
       exact⟨by rw[zu OKF];rfl,below_drewN (zu BB) _⟩
      have GO:=zh ((zu GOOD) ⟨zu RK,by have e:=congrArg Prod.fst (zu RE);have y:=B3.yes;unfold Amt at y;simp only at e;omega,by have e:=congrArg Prod.snd (zu RE);have y:=B4.yes;unfold Amt at y;simp only at e;omega⟩)
      have y3:=B3.yes.2
      have y4:=B4.yes.2
      clear BAD GOOD ROW RUN HB
      go_wp2
      go_roundw
      case rel=>exact⟨k+1,x3,x4,by omega,by go_num,rfl,rfl,by omega,by omega,by omega,by omega,below_drewN (zu BB) _,GO,zh (fun _=>by rw[show k+1-1=k by omega,zu RQ];exact(zu RE).symm)⟩
      case measure=>simp[intOf];omega
    ·have q1:(x0 !=u0)=true:=by simpa using c0
     obtain⟨b3,B3⟩:=says_of (Amt (x3))
     obtain⟨b4,B4⟩:=says_of (Amt (x4))
     have RE:=zh (show(rq,rc)=(x3,x4) from by rw[(zu RUN) (zu RK),if_pos (.inr (.inl c0))])
     go_wp2_with fail
     go_quiet (fail)
     go_wp2_with fail
     refine(sAmt (x3) b3 _ B3).mono ?_
     rintro e w3 ⟨rfl,rfl⟩
     cases b3
     ·have OKF:=zh ((zu BAD) (fun hr=>B3.no (by have e:=congrArg Prod.fst (zu RE);have:=hr.2.1;unfold Amt;simp only at e;omega)))
      clear BAD GOOD ROW RUN RE
      go_wp2
      go_ret
      exact⟨by rw[zu OKF];rfl,below_drewN (zu BB) _⟩
     go_wp2_with fail
     refine(sAmt (x4) b4 _ B4).mono ?_
     rintro e w4 ⟨rfl,rfl⟩
     cases b4
     ·have OKF:=zh ((zu BAD) (fun hr=>B4.no (by have e:=congrArg Prod.snd (zu RE);have:=hr.2.2;unfold Amt;simp only at e;omega)))
      clear BAD GOOD ROW RUN RE
      go_wp2
      go_ret
      exact⟨by rw[zu OKF];rfl,below_drewN (zu BB) _⟩
     have GO:=zh ((zu GOOD) ⟨zu RK,by have e:=congrArg Prod.fst (zu RE);have y:=B3.yes;unfold Amt at y;simp only at e;omega,by have e:=congrArg Prod.snd (zu RE);have y:=B4.yes;unfold Amt at y;simp only at e;omega⟩)
     have y3:=B3.yes.2
     have y4:=B4.yes.2
     clear BAD GOOD ROW RUN HB
     go_wp2
     go_roundw
     case rel=>exact⟨k+1,x3,x4,by omega,by go_num,rfl,rfl,by omega,by omega,by omega,by omega,below_drewN (zu BB) _,GO,zh (fun _=>by rw[show k+1-1=k by omega,zu RQ];exact(zu RE).symm)⟩
     case measure=>simp[intOf];omega
  ·obtain rfl:k=n:=by omega
   obtain rfl:ok=true:=hok.of ((right_iff ps (by omega)).2 (by rw[hl];exact zu HG))
   have HB:=zh hb
   clear hb hok
   go_wp2
   go_ret
   exact⟨rfl,zu HB⟩
end SOk5
namespace ITrade
open BMem Bks IRead IHave
open Tup8 (T8 el8 At8 Holds8 Own8 Reads8)
open Lots (Says says_of NoOk)
open SOk5 (one_more)
theorem at_new(w:World)(xs:List Int)(e:TypeId){g:Nat}{cur:Array Value}(hg:g=w.heap.size)(hc:cur=(xs.map (Value.int .i64)).toArray):Ints.At (w.alloc (.cells cur e)) g xs:=by
 subst hg hc
 intro i hi
 unfold World.cell?
 simp only[heap_alloc_new]
 simp[hi]
theorem iOne(w:World)(x0 x1 x2 x3 x4 x5 x6 x7:Int)(b:Bool)(hb:Says b (TOne (x0,x1,x2,x3,x4,x5,x6,x7))):
  Calls Tryz.prog 179 #[.agg #[.int .i64 x0,.int .i64 x1,.int .i64 x2,.int .i64 x3,.int .i64 x4,.int .i64 x5,.int .i64 x6,.int .i64 x7]] w fun e w'=>e= .returned (.bool b)∧Below w.heap.size w w':=by
 have T:=zh hb
 obtain⟨b1,h1⟩:=says_of (∀x∈[x0,x1,x2,x3,x5],NoOk x)
 have H1:=zh h1
 obtain⟨b4,h4⟩:=says_of (1≤x4∧x4≤1000000000000000)
 have H4:=zh h4
 obtain⟨b6,h6⟩:=says_of (0≤x6∧x6≤1000000000000000)
 have H6:=zh h6
 clear hb h1 h4 h6
 go_enter Tryz.func179,Tryz.ntmps179
 go_wp2_with fail
 refine(iNumbers _ (w.heap.size+1) 5 5 [x0,x1,x2,x3,x5] b1 rfl (by omega) (by simp) (at_new _ [x0,x1,x2,x3,x5] _ (by simp) rfl) (zu H1)).mono ?_
 rintro e w1 ⟨rfl,b1'⟩
 have B1:=zh ((((Below.refl w.heap.size w).alloc (Nat.le_refl _) _).alloc (by simp) _).trans (b1'.mono (by simp;omega)))
 have e1:w1.cell? ⟨w.heap.size,1,none⟩=some (.int .i64 x1):=(b1'.cell (p:=⟨w.heap.size,1,none⟩) (by simp;omega)).trans (by simp)
 have e2:w1.cell? ⟨w.heap.size,2,none⟩=some (.int .i64 x2):=(b1'.cell (p:=⟨w.heap.size,2,none⟩) (by simp;omega)).trans (by simp)
 have e4:w1.cell? ⟨w.heap.size,4,none⟩=some (.int .i64 x4):=(b1'.cell (p:=⟨w.heap.size,4,none⟩) (by simp;omega)).trans (by simp)
 have e6:w1.cell? ⟨w.heap.size,6,none⟩=some (.int .i64 x6):=(b1'.cell (p:=⟨w.heap.size,6,none⟩) (by simp;omega)).trans (by simp)
 have e7:w1.cell? ⟨w.heap.size,7,none⟩=some (.int .i64 x7):=(b1'.cell (p:=⟨w.heap.size,7,none⟩) (by simp;omega)).trans (by simp)
 clear b1'
 cases b1
 ·have F:=zh ((zu T).not (fun h=>(zu H1).no (by
   obtain⟨k0,k1,k2,k3,k5,_⟩:=h
   intro x hx
   simp at hx
   rcases hx with rfl|rfl|rfl|rfl|rfl
   ·exact k0
   ·exact k1
   ·exact k2
   ·exact k3
   ·exact k5)))
  clear T H1 H4 H6
  go_wp2
  go_ret
  exact⟨by rw[zu F];rfl,zu B1⟩
 have N:=zh (zu H1).yes
 by_cases c:x1=x2
 ·have F:=zh ((zu T).not (fun h=>h.2.2.2.2.2.1 c))
  have hz:(x1 !=x2)=false:=by simp[c]
  clear T H1 H4 H6 N c
  go_wp2
  go_ret
  exact⟨by rw[zu F];rfl,zu B1⟩
 have hz:(x1 !=x2)=true:=by simp[c]
 have C:=zh c
 clear c
 go_wp2_with fail
 refine(iFrom _ _ b4 _ (zu H4)).mono ?_
 rintro e w2 ⟨rfl,rfl⟩
 cases b4
 ·have F:=zh ((zu T).not (fun h=>(zu H4).no h.2.2.2.2.2.2.1))
  clear T H1 H4 H6 N C
  go_wp2
  go_ret
  exact⟨by rw[zu F];rfl,zu B1⟩
 go_wp2_with fail
 refine(iFrom _ _ b6 _ (zu H6)).mono ?_
 rintro e w2 ⟨rfl,rfl⟩
 cases b6
 ·have F:=zh ((zu T).not (fun h=>(zu H6).no h.2.2.2.2.2.2.2.1))
  clear T H1 H4 H6 N C
  go_wp2
  go_ret
  exact⟨by rw[zu F];rfl,zu B1⟩
 by_cases c1:1≤x7
 ·have hd:decide (x7≤3)=b:=by
   by_cases c2:x7≤3
   ·rw[decide_eq_true c2]
    exact((zu T).of ⟨(zu N) _ (by simp),(zu N) _ (by simp),(zu N) _ (by simp),(zu N) _ (by simp),(zu N) _ (by simp),zu C,(zu H4).yes,(zu H6).yes,c1,c2⟩).symm
   ·rw[decide_eq_false c2]
    exact((zu T).not (fun h=>c2 h.2.2.2.2.2.2.2.2.2)).symm
  clear T H1 H4 H6 N C
  go_wp2
  go_ret
  exact⟨rfl,zu B1⟩
 ·have F:=zh ((zu T).not (fun h=>c1 h.2.2.2.2.2.2.2.2.1))
  have hd:decide (1≤x7)=false:=decide_eq_false c1
  clear T H1 H4 H6 N C c1
  go_wp2
  go_ret
  exact⟨by rw[zu F];rfl,zu B1⟩
def ahead(ps:List T8)(k:Nat):Int:=if k=0 then 0 else(el8 ps (k-1)).1
theorem ahead_next(ps:List T8)(k:Nat):ahead ps (k+1)=(el8 ps k).1:=by simp[ahead]
theorem row_iff(ps:List T8)(k:Nat):TRowOk ps k↔TOne (el8 ps k)∧¬(el8 ps k).1≤ahead ps k:=by
 unfold TRowOk ahead
 by_cases k0:k=0
 ·subst k0
  constructor
  ·rintro⟨h,_⟩
   have:=h.1.1
   refine⟨h,?_⟩
   rw[if_pos rfl]
   omega
  ·rintro⟨h,_⟩
   exact⟨h,fun h=>by omega⟩
 ·rw[if_neg k0]
  constructor
  ·rintro⟨h,k⟩
   have:=k (by omega)
   exact⟨h,by omega⟩
  ·rintro⟨h,k⟩
   exact⟨h,fun _=>by omega⟩
theorem iOk(w:World)(g n cap:Nat)(ps:List T8)(ok:Bool)(hl:ps.length=n)(h20:n≤1048576)(hg:g<w.heap.size)(h:At8 w g ps)(hok:Says ok (TRight ps)):
  Calls Tryz.prog 152 #[.slice (some ⟨g,0,none⟩) n cap] w fun e w'=>e= .returned (.bool ok)∧Below w.heap.size w w':=by
 have HL:=zh hl
 by_cases nn:(30:Int)<(n:Int)
 ·obtain rfl:ok=false:=hok.not (fun r=>by have:=r.1;omega)
  clear hok h hl
  go_enter Tryz.func152,Tryz.ntmps152
  go_wp2
  go_ret
  exact⟨rfl,Below.refl _ _⟩
 have OK:=zh hok
 have H:=zh h
 clear hok h hl
 go_enter Tryz.func152,Tryz.ntmps152
 go_wp2
 go_loopw [3,11] (fun p i wr=>∃(k:Nat) (bf:Int),k≤n∧i= .int .i64 k∧p= .int .i64 bf∧Hid (ahead ps k=bf)∧Below w.heap.size w wr∧Hid (∀i,i<k→TRowOk ps i)) (fun _ i _=>n-(intOf i).toNat)
 case atStart=>exact⟨0,0,by omega,rfl,rfl,zh rfl,Below.refl _ _,zh (fun i hi=>absurd hi (by omega))⟩
 case round=>
  obtain⟨k,bf,hk,rfl,rfl,HP,hb,HG⟩:=hrel
  have HB:=zh hb
  have hs:=hb.size
  by_cases t:k<n
  ·obtain⟨d0,d1,d2,d3,d4,d5,d6,d7⟩:=(((zu H) k (by rw[zu HL];exact t)).below hb hg)
   clear hb
   have ROW:=zh (row_iff ps k)
   rw[zu HP] at ROW
   have AN:=zh (ahead_next ps k)
   have BAD:=zh (show ¬TRowOk ps k→ok=false from fun hr=>(zu OK).not (fun r=>hr (r.2 k (by rw[zu HL];exact t))))
   have GOOD:=zh (show TRowOk ps k→∀i,i<k+1→TRowOk ps i from fun hr i hi=>by
    by_cases e:i=k
    ·subst e;exact hr
    ·exact(zu HG) i (by omega))
   have EL:Hid (el8 ps k=((el8 ps k).1,(el8 ps k).2.1,(el8 ps k).2.2.1,(el8 ps k).2.2.2.1,(el8 ps k).2.2.2.2.1,(el8 ps k).2.2.2.2.2.1,(el8 ps k).2.2.2.2.2.2.1,(el8 ps k).2.2.2.2.2.2.2)):=rfl
   generalize (el8 ps k).1=x0 at *
   generalize (el8 ps k).2.1=x1 at *
   generalize (el8 ps k).2.2.1=x2 at *
   generalize (el8 ps k).2.2.2.1=x3 at *
   generalize (el8 ps k).2.2.2.2.1=x4 at *
   generalize (el8 ps k).2.2.2.2.2.1=x5 at *
   generalize (el8 ps k).2.2.2.2.2.2.1=x6 at *
   generalize (el8 ps k).2.2.2.2.2.2.2=x7 at *
   rw[zu EL] at ROW
   obtain⟨b1,h1⟩:=says_of (TOne (x0,x1,x2,x3,x4,x5,x6,x7))
   have H1:=zh h1
   clear h1 EL
   go_wp2_with fail
   refine(iOne _ x0 x1 x2 x3 x4 x5 x6 x7 b1 (zu H1)).mono ?_
   rintro e w1 ⟨rfl,b1'⟩
   have e0:w1.cell? ⟨wr.heap.size,0,none⟩=some (.int .i64 x0):=(b1'.cell (p:=⟨wr.heap.size,0,none⟩) (by simp)).trans (by simp)
   have B1:=zh ((zu HB).trans ((((Below.refl wr.heap.size wr).alloc (Nat.le_refl _) _).trans (b1'.mono (by simp))).mono hs))
   clear b1' d0 d1 d2 d3 d4 d5 d6 d7
   cases b1
   ·have F:=zh ((zu BAD) (fun hr=>(zu H1).no ((zu ROW).1 hr).1))
    clear BAD GOOD ROW H1
    go_wp2
    go_ret
    exact⟨by rw[zu F];rfl,zu B1⟩
   by_cases c:x0≤bf
   ·have F:=zh ((zu BAD) (fun hr=>by have:=((zu ROW).1 hr).2;omega))
    clear BAD GOOD ROW H1
    go_wp2
    go_ret
    exact⟨by rw[zu F];rfl,zu B1⟩
   ·have G:=zh ((zu GOOD) ((zu ROW).2 ⟨(zu H1).yes,by omega⟩))
    have hc:decide (x0≤bf)=false:=decide_eq_false c
    clear BAD GOOD ROW H1 c
    go_wp2
    go_roundw
    case rel=>exact⟨k+1,x0,by omega,by go_num,rfl,AN,zu B1,G⟩
    case measure=>simp[intOf];omega
  ·clear hb
   have F:=zh ((zu OK).of ⟨by rw[zu HL];omega,fun i hi=>(zu HG) i (by rw[zu HL] at hi;omega)⟩)
   go_wp2
   go_ret
   exact⟨by rw[zu F];rfl,zu HB⟩
theorem sOk(w:World)(g n cap:Nat)(ps:List T8)(ok:Bool)(hl:ps.length=n)(h20:n≤1048576)(hg:g<w.heap.size)(h:At8 w g ps)(hok:Says ok (TRight ps)):
  Calls Tryz.prog 87 #[.slice (some ⟨g,0,none⟩) n cap] w fun e w'=>e= .returned (.bool ok)∧Below w.heap.size w w':=by
 have HL:=zh hl
 by_cases nn:(30:Int)<(n:Int)
 ·obtain rfl:ok=false:=hok.not (fun r=>by have:=r.1;omega)
  clear hok h hl
  go_enter Tryz.func87,Tryz.ntmps87
  go_wp2
  go_ret
  exact⟨rfl,Below.refl _ _⟩
 have OK:=zh hok
 have H:=zh h
 clear hok h hl
 go_enter Tryz.func87,Tryz.ntmps87
 go_wp2
 go_loopw [3] (fun i wr=>∃(k:Nat),k≤n∧i= .int .i64 k∧Below w.heap.size w wr∧Hid (∀i,i<k→TRowOk ps i)) (fun i _=>n-(intOf i).toNat)
 case atStart=>exact⟨0,by omega,rfl,Below.refl _ _,zh (fun i hi=>absurd hi (by omega))⟩
 case round=>
  obtain⟨k,hk,rfl,hb,HG⟩:=hrel
  have HB:=zh hb
  have hs:=hb.size
  by_cases t:k<n
  ·obtain⟨d0,d1,d2,d3,d4,d5,d6,d7⟩:=(((zu H) k (by rw[zu HL];exact t)).below hb hg)
   have PR:k=0∨∃z:Int,Hid ((el8 ps (k-1)).1=z)∧0<k∧wr.cell? ⟨g,(k-1)*8,none⟩=some (.int .i64 z):=by
    by_cases k0:k=0
    ·exact .inl k0
    ·exact .inr ⟨_,zh rfl,by omega,(((zu H) (k-1) (by rw[zu HL];omega)).below hb hg).1⟩
   clear hb
   have ROW:=zh (show TRowOk ps k↔TOne (el8 ps k)∧(0<k→(el8 ps (k-1)).1<(el8 ps k).1) from Iff.rfl)
   have BAD:=zh (show ¬TRowOk ps k→ok=false from fun hr=>(zu OK).not (fun r=>hr (r.2 k (by rw[zu HL];exact t))))
   have GOOD:=zh (show TRowOk ps k→∀i,i<k+1→TRowOk ps i from fun hr i hi=>by
    by_cases e:i=k
    ·subst e;exact hr
    ·exact(zu HG) i (by omega))
   have EL:Hid (el8 ps k=((el8 ps k).1,(el8 ps k).2.1,(el8 ps k).2.2.1,(el8 ps k).2.2.2.1,(el8 ps k).2.2.2.2.1,(el8 ps k).2.2.2.2.2.1,(el8 ps k).2.2.2.2.2.2.1,(el8 ps k).2.2.2.2.2.2.2)):=rfl
   generalize (el8 ps k).1=x0 at *
   generalize (el8 ps k).2.1=x1 at *
   generalize (el8 ps k).2.2.1=x2 at *
   generalize (el8 ps k).2.2.2.1=x3 at *
   generalize (el8 ps k).2.2.2.2.1=x4 at *
   generalize (el8 ps k).2.2.2.2.2.1=x5 at *
   generalize (el8 ps k).2.2.2.2.2.2.1=x6 at *
   generalize (el8 ps k).2.2.2.2.2.2.2=x7 at *
   rw[zu EL] at ROW
   clear EL
   have NB:=zh (fun m=>(zu HB).trans ((below_drewN (one_more wr (.cells #[.int .i64 x0,.int .i64 x1,.int .i64 x2,.int .i64 x3,.int .i64 x4,.int .i64 x5,.int .i64 x6,.int .i64 x7] 110)) m).mono hs))
   obtain⟨b0,B0⟩:=says_of (NoOk x0)
   obtain⟨b1,B1⟩:=says_of (NoOk x1)
   obtain⟨b2,B2⟩:=says_of (NoOk x2)
   obtain⟨b3,B3⟩:=says_of (NoOk x3)
   obtain⟨b4,B4⟩:=says_of (NoOk x5)
   obtain⟨b6,B6⟩:=says_of (1≤x4∧x4≤1000000000000000)
   obtain⟨b7,B7⟩:=says_of (0≤x6∧x6≤1000000000000000)
   obtain⟨b8,B8⟩:=says_of (1≤x7∧x7≤3)
   cases b0
   ·have F:=zh ((zu BAD) (fun hr=>B0.no ((zu ROW).1 hr).1.1))
    clear BAD GOOD ROW PR
    go_wp2_with fail
    go_quiet (first|(go_at_call 29;refine Calls.quiet_of_same (SOk5.sNo _ false _ B0)))
    go_wp2
    go_ret
    exact⟨by rw[zu F];rfl,(zu NB) _⟩
   cases b1
   ·have F:=zh ((zu BAD) (fun hr=>B1.no ((zu ROW).1 hr).1.2.1))
    clear BAD GOOD ROW PR
    go_wp2_with fail
    go_quiet (first|(go_at_call 29;refine Calls.quiet_of_same (SOk5.sNo _ true _ B0))|(go_at_call 29;refine Calls.quiet_of_same (SOk5.sNo _ false _ B1)))
    go_wp2
    go_ret
    exact⟨by rw[zu F];rfl,(zu NB) _⟩
   cases b2
   ·have F:=zh ((zu BAD) (fun hr=>B2.no ((zu ROW).1 hr).1.2.2.1))
    clear BAD GOOD ROW PR
    go_wp2_with fail
    go_quiet (first|(go_at_call 29;refine Calls.quiet_of_same (SOk5.sNo _ true _ B0))|(go_at_call 29;refine Calls.quiet_of_same (SOk5.sNo _ true _ B1))|(go_at_call 29;refine Calls.quiet_of_same (SOk5.sNo _ false _ B2)))
    go_wp2
    go_ret
    exact⟨by rw[zu F];rfl,(zu NB) _⟩
   cases b3
   ·have F:=zh ((zu BAD) (fun hr=>B3.no ((zu ROW).1 hr).1.2.2.2.1))
    clear BAD GOOD ROW PR
    go_wp2_with fail
    go_quiet (first|(go_at_call 29;refine Calls.quiet_of_same (SOk5.sNo _ true _ B0))|(go_at_call 29;refine Calls.quiet_of_same (SOk5.sNo _ true _ B1))|(go_at_call 29;refine Calls.quiet_of_same (SOk5.sNo _ true _ B2))|(go_at_call 29;refine Calls.quiet_of_same (SOk5.sNo _ false _ B3)))
    go_wp2
    go_ret
    exact⟨by rw[zu F];rfl,(zu NB) _⟩
   cases b4
   ·have F:=zh ((zu BAD) (fun hr=>B4.no ((zu ROW).1 hr).1.2.2.2.2.1))
    clear BAD GOOD ROW PR
    go_wp2_with fail
    go_quiet (first|(go_at_call 29;refine Calls.quiet_of_same (SOk5.sNo _ true _ B0))|(go_at_call 29;refine Calls.quiet_of_same (SOk5.sNo _ true _ B1))|(go_at_call 29;refine Calls.quiet_of_same (SOk5.sNo _ true _ B2))|(go_at_call 29;refine Calls.quiet_of_same (SOk5.sNo _ true _ B3))|(go_at_call 29;refine Calls.quiet_of_same (SOk5.sNo _ false _ B4)))
    go_wp2
    go_ret
    exact⟨by rw[zu F];rfl,(zu NB) _⟩
   by_cases c:x1=x2
   ·have F:=zh ((zu BAD) (fun hr=>((zu ROW).1 hr).1.2.2.2.2.2.1 c))
    have hz:(x1==x2)=true:=by simp[c]
    clear BAD GOOD ROW c PR
    go_wp2_with fail
    go_quiet (first|(go_at_call 29;refine Calls.quiet_of_same (SOk5.sNo _ true _ B0))|(go_at_call 29;refine Calls.quiet_of_same (SOk5.sNo _ true _ B1))|(go_at_call 29;refine Calls.quiet_of_same (SOk5.sNo _ true _ B2))|(go_at_call 29;refine Calls.quiet_of_same (SOk5.sNo _ true _ B3))|(go_at_call 29;refine Calls.quiet_of_same (SOk5.sNo _ true _ B4)))
    go_wp2
    go_ret
    exact⟨by rw[zu F];rfl,(zu NB) _⟩
   have hz:(x1==x2)=false:=by simp[c]
   have C:=zh c
   clear c
   cases b6
   ·have F:=zh ((zu BAD) (fun hr=>B6.no ((zu ROW).1 hr).1.2.2.2.2.2.2.1))
    clear BAD GOOD ROW PR
    go_wp2_with fail
    go_quiet (first|(go_at_call 29;refine Calls.quiet_of_same (SOk5.sNo _ true _ B0))|(go_at_call 29;refine Calls.quiet_of_same (SOk5.sNo _ true _ B1))|(go_at_call 29;refine Calls.quiet_of_same (SOk5.sNo _ true _ B2))|(go_at_call 29;refine Calls.quiet_of_same (SOk5.sNo _ true _ B3))|(go_at_call 29;refine Calls.quiet_of_same (SOk5.sNo _ true _ B4))|(go_at_call 30;refine Calls.quiet_of_same (SOk5.sSome _ _ false _ B6)))
    go_wp2
    go_ret
    exact⟨by rw[zu F];rfl,(zu NB) _⟩
   cases b7
   ·have F:=zh ((zu BAD) (fun hr=>B7.no ((zu ROW).1 hr).1.2.2.2.2.2.2.2.1))
    clear BAD GOOD ROW PR
    go_wp2_with fail
    go_quiet (first|(go_at_call 29;refine Calls.quiet_of_same (SOk5.sNo _ true _ B0))|(go_at_call 29;refine Calls.quiet_of_same (SOk5.sNo _ true _ B1))|(go_at_call 29;refine Calls.quiet_of_same (SOk5.sNo _ true _ B2))|(go_at_call 29;refine Calls.quiet_of_same (SOk5.sNo _ true _ B3))|(go_at_call 29;refine Calls.quiet_of_same (SOk5.sNo _ true _ B4))|(go_at_call 30;refine Calls.quiet_of_same (SOk5.sSome _ _ true _ B6))|(go_at_call 30;refine Calls.quiet_of_same (SOk5.sSome _ _ false _ B7)))
    go_wp2
    go_ret
    exact⟨by rw[zu F];rfl,(zu NB) _⟩
   cases b8
   ·have F:=zh ((zu BAD) (fun hr=>B8.no ((zu ROW).1 hr).1.2.2.2.2.2.2.2.2))
    clear BAD GOOD ROW PR
    go_wp2_with fail
    go_quiet (first|(go_at_call 29;refine Calls.quiet_of_same (SOk5.sNo _ true _ B0))|(go_at_call 29;refine Calls.quiet_of_same (SOk5.sNo _ true _ B1))|(go_at_call 29;refine Calls.quiet_of_same (SOk5.sNo _ true _ B2))|(go_at_call 29;refine Calls.quiet_of_same (SOk5.sNo _ true _ B3))|(go_at_call 29;refine Calls.quiet_of_same (SOk5.sNo _ true _ B4))|(go_at_call 30;refine Calls.quiet_of_same (SOk5.sSome _ _ true _ B6))|(go_at_call 30;refine Calls.quiet_of_same (SOk5.sSome _ _ true _ B7))|(go_at_call 70;refine Calls.quiet_of_same (SOk5.sIn _ _ _ false _ B8)))
    go_wp2
    go_ret
    exact⟨by rw[zu F];rfl,(zu NB) _⟩
   have ONE:=zh (show TOne (x0,x1,x2,x3,x4,x5,x6,x7) from⟨B0.yes,B1.yes,B2.yes,B3.yes,B4.yes,zu C,B6.yes,B7.yes,B8.yes⟩)
   rcases PR with rfl|⟨z,Z,k0,pc⟩
   ·have G:=zh ((zu GOOD) ((zu ROW).2 ⟨zu ONE,fun h=>by omega⟩))
    clear BAD GOOD ROW ONE
    go_wp2_with fail
    go_quiet (first|(go_at_call 29;refine Calls.quiet_of_same (SOk5.sNo _ true _ B0))|(go_at_call 29;refine Calls.quiet_of_same (SOk5.sNo _ true _ B1))|(go_at_call 29;refine Calls.quiet_of_same (SOk5.sNo _ true _ B2))|(go_at_call 29;refine Calls.quiet_of_same (SOk5.sNo _ true _ B3))|(go_at_call 29;refine Calls.quiet_of_same (SOk5.sNo _ true _ B4))|(go_at_call 30;refine Calls.quiet_of_same (SOk5.sSome _ _ true _ B6))|(go_at_call 30;refine Calls.quiet_of_same (SOk5.sSome _ _ true _ B7))|(go_at_call 70;refine Calls.quiet_of_same (SOk5.sIn _ _ _ true _ B8)))
    go_wp2
    go_roundw
    case rel=>exact⟨1,by omega,by go_num,(zu NB) _,G⟩
    case measure=>simp[intOf];omega
   ·have k1:(0:Int)<(k:Int):=by omega
    have k2:(0:Int)≤(k:Int) -1:=by omega
    have k3:((k:Int) -1).toNat=k-1:=by omega
    have k4:IntKind.i64.wrap ((k:Int) -1)=(k:Int) -1:=by rw[IntKind.wrap_i64];omega
    have k5:(k:Int) -1<(n:Int):=by omega
    have gne:g≠wr.heap.size:=by omega
    have gs:g<wr.heap.size:=by omega
    by_cases c:z≥x0
    ·have F:=zh ((zu BAD) (fun hr=>by have:=((zu ROW).1 hr).2 k0;rw[zu Z] at this;omega))
     have hc:decide (z≥x0)=true:=decide_eq_true c
     clear BAD GOOD ROW ONE c
     go_wp2_with fail
     go_quiet (first|(go_at_call 29;refine Calls.quiet_of_same (SOk5.sNo _ true _ B0))|(go_at_call 29;refine Calls.quiet_of_same (SOk5.sNo _ true _ B1))|(go_at_call 29;refine Calls.quiet_of_same (SOk5.sNo _ true _ B2))|(go_at_call 29;refine Calls.quiet_of_same (SOk5.sNo _ true _ B3))|(go_at_call 29;refine Calls.quiet_of_same (SOk5.sNo _ true _ B4))|(go_at_call 30;refine Calls.quiet_of_same (SOk5.sSome _ _ true _ B6))|(go_at_call 30;refine Calls.quiet_of_same (SOk5.sSome _ _ true _ B7))|(go_at_call 70;refine Calls.quiet_of_same (SOk5.sIn _ _ _ true _ B8)))
     go_wp2
     go_ret
     exact⟨by rw[zu F];rfl,(zu NB) _⟩
    ·have G:=zh ((zu GOOD) ((zu ROW).2 ⟨zu ONE,fun _=>by rw[zu Z];omega⟩))
     have hc:decide (z≥x0)=false:=decide_eq_false c
     clear BAD GOOD ROW c ONE
     go_wp2_with fail
     go_quiet (first|(go_at_call 29;refine Calls.quiet_of_same (SOk5.sNo _ true _ B0))|(go_at_call 29;refine Calls.quiet_of_same (SOk5.sNo _ true _ B1))|(go_at_call 29;refine Calls.quiet_of_same (SOk5.sNo _ true _ B2))|(go_at_call 29;refine Calls.quiet_of_same (SOk5.sNo _ true _ B3))|(go_at_call 29;refine Calls.quiet_of_same (SOk5.sNo _ true _ B4))|(go_at_call 30;refine Calls.quiet_of_same (SOk5.sSome _ _ true _ B6))|(go_at_call 30;refine Calls.quiet_of_same (SOk5.sSome _ _ true _ B7))|(go_at_call 70;refine Calls.quiet_of_same (SOk5.sIn _ _ _ true _ B8)))
     go_wp2
     go_roundw
     case rel=>exact⟨k+1,by omega,by go_num,(zu NB) _,G⟩
     case measure=>simp[intOf];omega
  ·clear hb
   have F:=zh ((zu OK).of ⟨by rw[zu HL];omega,fun i hi=>(zu HG) i (by rw[zu HL] at hi;omega)⟩)
   go_wp2
   go_ret
   exact⟨by rw[zu F];rfl,zu HB⟩
end ITrade
namespace Cmp
open Bals Triples
def cmpI(x y:Int):Int:=if x<y then-1 else if y<x then 1 else 0
theorem isNaN(x:Int)(w:World):Calls Tryz.prog 203 #[.int .i64 x] w fun e w'=>e= .returned (.bool false)∧w'=w:=by
 go_enter Tryz.func203,Tryz.ntmps203
 go_wp2
 go_ret
 exact⟨rfl,rfl⟩
theorem compare1(x y:Int)(w:World):Calls Tryz.prog 189 #[.int .i64 x,.int .i64 y] w fun e w'=>e= .returned (.int .i64 (cmpI x y))∧w'=w:=by
 unfold cmpI
 by_cases h:x<y
 ·go_enter Tryz.func189,Tryz.ntmps189
  go_wp2_with (go_at_call 203;refine(isNaN _ _).mono ?_;rintro e w1 ⟨rfl,rfl⟩)
  go_ret
  exact⟨by simp[h],rfl⟩
 ·by_cases k:y<x
  ·go_enter Tryz.func189,Tryz.ntmps189
   go_wp2_with (go_at_call 203;refine(isNaN _ _).mono ?_;rintro e w1 ⟨rfl,rfl⟩)
   go_ret
   exact⟨by simp[h,k],rfl⟩
  ·go_enter Tryz.func189,Tryz.ntmps189
   go_wp2_with (go_at_call 203;refine(isNaN _ _).mono ?_;rintro e w1 ⟨rfl,rfl⟩)
   go_ret
   exact⟨by simp[h,k],rfl⟩
def orI(x y:Int):Int:=if x=0 then y else x
theorem orL(g:Nat)(x y:Int)(w:World)(h0:w.cell? ⟨g,0,none⟩=some (.int .i64 x))(h1:w.cell? ⟨g,1,none⟩=some (.int .i64 y)):
  Calls Tryz.prog 188 #[.slice (some ⟨g,0,none⟩) 2 2] w fun e w'=>e= .returned (.int .i64 (orI x y))∧w'=w:=by
 unfold orI
 go_enter Tryz.func188,Tryz.ntmps188
 go_wp2
 go_loop [5,8] (fun _ i=>∃(k:Nat),i= .int .i64 k∧(k=0∨(k=1∧x=0)∨(k=2∧x=0∧y=0))) (fun _ i=>2-(intOf i).toNat)
 case atStart=>exact⟨0,rfl,.inl rfl⟩
 case round=>
  obtain⟨k,rfl,hk⟩:=hrel
  rcases hk with rfl|⟨rfl,rfl⟩|⟨rfl,rfl,rfl⟩
  ·by_cases z:x=0
   ·subst z
    go_wp2
    go_round
    case rel=>exact⟨1,by go_num,.inr (.inl ⟨rfl,by trivial⟩)⟩
    case measure=>simp[intOf]
   ·go_wp2
    go_ret
    exact⟨by simp[z],rfl⟩
  ·by_cases z:y=0
   ·subst z
    go_wp2
    go_round
    case rel=>exact⟨2,by go_num,.inr (.inr ⟨rfl,by trivial,by trivial⟩)⟩
    case measure=>simp[intOf]
   ·go_wp2
    go_ret
    exact⟨by simp,rfl⟩
  ·go_wp2
   go_ret
   exact⟨by simp,rfl⟩
def cmpK(a i b j:Int):Int:=orI (cmpI a b) (cmpI i j)
theorem cmpK_lt(a i b j:Int):cmpK a i b j<0↔(a<b∨(a=b∧i<j)):=by
 unfold cmpK orI cmpI
 repeat(first|split|omega)
theorem cmpK_le(a i b j:Int):cmpK a i b j≤0↔¬(b<a∨(b=a∧j<i)):=by
 unfold cmpK orI cmpI
 repeat(first|split|omega)
theorem grow_below(w:World)(q:Nat)(os:Array Obj):Below w.heap.size w (Go.Sort.grow (w.drewN q) os):=
 ⟨rfl,rfl,rfl,by simp[Go.Sort.grow,World.drewN],fun k hk=>by
  show(w.heap++os)[k]?=w.heap[k]?
  rw[Array.getElem?_append_left hk]⟩
theorem compareG(a i b j:Int)(w:World):Calls Tryz.prog 169 #[.agg #[.int .i64 a,.int .i64 i],.agg #[.int .i64 b,.int .i64 j]] w fun e w'=>e= .returned (.int .i64 (cmpK a i b j))∧∃q os,w'=Go.Sort.grow (w.drewN q) os:=by
 unfold cmpK
 go_enter Tryz.func169,Tryz.ntmps169
 go_wp2_with fail
 have hu:∃os,(w.alloc (.cells #[.int .i64 a,.int .i64 i] 177)).alloc (.cells #[.int .i64 b,.int .i64 j] 177)=Go.Sort.grow w os:=⟨_,by rw[Go.Sort.alloc_eq_grow,Go.Sort.alloc_eq_grow,Go.Sort.grow_grow]⟩
 have c0:((w.alloc (.cells #[.int .i64 a,.int .i64 i] 177)).alloc (.cells #[.int .i64 b,.int .i64 j] 177)).cell? ⟨w.heap.size,0,none⟩=some (.int .i64 a):=by simp
 have c1:((w.alloc (.cells #[.int .i64 a,.int .i64 i] 177)).alloc (.cells #[.int .i64 b,.int .i64 j] 177)).cell? ⟨w.heap.size,1,none⟩=some (.int .i64 i):=by simp
 have c2:((w.alloc (.cells #[.int .i64 a,.int .i64 i] 177)).alloc (.cells #[.int .i64 b,.int .i64 j] 177)).cell? ⟨w.heap.size+1,0,none⟩=some (.int .i64 b):=by simp
 have c3:((w.alloc (.cells #[.int .i64 a,.int .i64 i] 177)).alloc (.cells #[.int .i64 b,.int .i64 j] 177)).cell? ⟨w.heap.size+1,1,none⟩=some (.int .i64 j):=by simp
 have HU:=zh hu
 clear hu
 generalize (w.alloc (.cells #[.int .i64 a,.int .i64 i] 177)).alloc (.cells #[.int .i64 b,.int .i64 j] 177)=u at *
 generalize w.heap.size+1=h1 at *
 generalize w.heap.size=h0 at *
 go_region_held3 (fun w'=>w'.cell? ⟨h0,0,none⟩=some (.int .i64 a)∧w'.cell? ⟨h0,1,none⟩=some (.int .i64 i)∧w'.cell? ⟨h1,0,none⟩=some (.int .i64 b)∧w'.cell? ⟨h1,1,none⟩=some (.int .i64 j)) (go_keep)
  (first|(go_at_call 189;refine(compare1 _ _ _).mono ?_;rintro e w1 ⟨rfl,rfl⟩)|(go_at_call 188;refine(orL u.heap.size (cmpI a b) (cmpI i j) _ ?_ ?_).mono ?_;(simp);(simp);rintro e w1 ⟨rfl,rfl⟩))
 all_goals(go_wp2;go_ret)
 all_goals(obtain⟨os,rfl⟩:=zu HU;exact⟨rfl,1,_,by rw[Go.Sort.alloc_eq_grow];exact Go.Sort.grow_grow (w.drewN 1) _ _⟩)
theorem compareK(a i b j:Int)(w:World):Calls Tryz.prog 169 #[.agg #[.int .i64 a,.int .i64 i],.agg #[.int .i64 b,.int .i64 j]] w fun e w'=>e= .returned (.int .i64 (cmpK a i b j))∧Below w.heap.size w w':=
 (compareG a i b j w).mono fun _ _ ⟨he,q,os,hw⟩=>⟨he,by rw[hw];exact grow_below w q os⟩
theorem keyOk(a i:Int)(b:Bool)(w:World)(h:Says b (NoOk a∧NoOk i)):Calls Tryz.prog 168 #[.agg #[.int .i64 a,.int .i64 i]] w fun e w'=>e= .returned (.bool b)∧Below w.heap.size w w':=by
 have hb:Below w.heap.size w (w.alloc (.cells #[.int .i64 a,.int .i64 i] 177)):=(Below.refl _ _).alloc (Nat.le_refl _) _
 by_cases c1:1≤a
 ·by_cases c2:a≤1000
  ·by_cases c3:1≤i
   ·by_cases c4:i≤1000
    ·obtain rfl:b=true:=h.of ⟨⟨c1,c2⟩,c3,c4⟩
     clear h
     go_enter Tryz.func168,Tryz.ntmps168
     go_wp2
     go_ret
     exact⟨rfl,hb⟩
    ·obtain rfl:b=false:=h.not (fun r=>by unfold NoOk at r;omega)
     clear h
     go_enter Tryz.func168,Tryz.ntmps168
     go_wp2
     go_ret
     exact⟨rfl,hb⟩
   ·obtain rfl:b=false:=h.not (fun r=>by unfold NoOk at r;omega)
    clear h
    go_enter Tryz.func168,Tryz.ntmps168
    go_wp2
    go_ret
    exact⟨rfl,hb⟩
  ·obtain rfl:b=false:=h.not (fun r=>by unfold NoOk at r;omega)
   clear h
   go_enter Tryz.func168,Tryz.ntmps168
   go_wp2
   go_ret
   exact⟨rfl,hb⟩
 ·obtain rfl:b=false:=h.not (fun r=>by unfold NoOk at r;omega)
  clear h
  go_enter Tryz.func168,Tryz.ntmps168
  go_wp2
  go_ret
  exact⟨rfl,hb⟩
theorem iAmt(x:Int)(b:Bool)(w:World)(h:Says b (Amt x)):Calls Tryz.prog 103 #[.int .i64 x] w fun e w'=>e= .returned (.bool b)∧w'=w:=by
 by_cases c1: -1000000000000000≤x
 ·by_cases c2:x≤1000000000000000
  ·obtain rfl:b=true:=h.of ⟨c1,c2⟩
   clear h
   go_enter Tryz.func103,Tryz.ntmps103
   go_wp2
   go_ret
   exact⟨rfl,rfl⟩
  ·obtain rfl:b=false:=h.not (fun r=>by unfold Amt at r;omega)
   clear h
   go_enter Tryz.func103,Tryz.ntmps103
   go_wp2
   go_ret
   exact⟨rfl,rfl⟩
 ·obtain rfl:b=false:=h.not (fun r=>by unfold Amt at r;omega)
  clear h
  go_enter Tryz.func103,Tryz.ntmps103
  go_wp2
  go_ret
  exact⟨rfl,rfl⟩
end Cmp
namespace IOk3
open Bals Triples Cmp
def ahead(ps:List T3)(k:Nat):Int×Int:=if k=0 then(0,0) else((el3 ps (k-1)).1,(el3 ps (k-1)).2.1)
theorem ahead_next(ps:List T3)(k:Nat):ahead ps (k+1)=((el3 ps k).1,(el3 ps k).2.1):=by unfold ahead;rw[if_neg (by omega)];rfl
theorem row_iff(ps:List T3)(k:Nat):RowOk ps k↔(NoOk (el3 ps k).1∧NoOk (el3 ps k).2.1)∧((ahead ps k).1<(el3 ps k).1∨((ahead ps k).1=(el3 ps k).1∧(ahead ps k).2<(el3 ps k).2.1))∧Amt (el3 ps k).2.2∧(el3 ps k).2.2≠0:=by
 unfold RowOk ahead
 by_cases k0:k=0
 ·subst k0
  rw[if_pos rfl]
  constructor
  ·rintro⟨a,b,c,d,_⟩
   exact⟨⟨a,b⟩,by unfold NoOk at a;simp only;omega,c,d⟩
  ·rintro⟨⟨a,b⟩,_,c,d⟩
   exact⟨a,b,c,d,fun h=>by omega⟩
 ·rw[if_neg k0]
  constructor
  ·rintro⟨a,b,c,d,e⟩
   exact⟨⟨a,b⟩,e (by omega),c,d⟩
  ·rintro⟨⟨a,b⟩,e,c,d⟩
   exact⟨a,b,c,d,fun h=>e⟩
theorem iOk(w:World)(g n cap:Nat)(ps:List T3)(ok:Bool)(hl:ps.length=n)(h20:n≤1048576)(hg:g<w.heap.size)(h:At3 w g ps)(hok:Says ok (Right ps)):
  Calls Tryz.prog 144 #[.slice (some ⟨g,0,none⟩) n cap] w fun e w'=>e= .returned (.bool ok)∧Below w.heap.size w w':=by
 by_cases nn:(160:Int)<(n:Int)
 ·obtain rfl:ok=false:=hok.not (fun r=>by have:=r.1;omega)
  clear hok h
  go_enter Tryz.func144,Tryz.ntmps144
  go_wp2
  go_ret
  exact⟨rfl,Below.refl _ _⟩
 have H:=zh h
 clear h
 go_enter Tryz.func144,Tryz.ntmps144
 go_wp2
 go_loopw [5,6,13] (fun _ _ i wr=>∃(k:Nat) (bf:Int×Int),k≤n∧i= .int .i64 k∧Hid (ahead ps k=bf)∧Below w.heap.size w wr∧Pairs.Own 177 wr w.heap.size w.heap.size 1 1 [bf]∧Hid (∀i,i<k→RowOk ps i)) (fun _ _ i _=>n-(intOf i).toNat)
 case atStart=>
  exact⟨0,(0,0),by omega,rfl,zh rfl,(Below.refl _ _).alloc (Nat.le_refl _) _,World.ownsRow_lit w #[.int .i64 0,.int .i64 0] 1 (Nat.le_refl _) (by decide) rfl,zh (fun i hi=>absurd hi (by omega))⟩
 case round=>
  obtain⟨k,⟨p,q⟩,hk,rfl,HP,hb,ho,HG⟩:=hrel
  by_cases t:k<n
  ·have hA:=(zu H).below hb hg
   obtain⟨e1,e2,e3⟩:=hA k (by omega)
   have gs:w.heap.size<wr.heap.size:=ho.lt.2
   clear hA
   have HB:=zh hb
   clear hb
   have HO:=zh ho
   clear ho
   have ROW:=zh (row_iff ps k)
   rw[zu HP] at ROW
   obtain⟨b1,B1⟩:=says_of (NoOk (el3 ps k).1∧NoOk (el3 ps k).2.1)
   obtain⟨b3,B3⟩:=says_of (Amt (el3 ps k).2.2)
   have AN:=zh (ahead_next ps k)
   have BAD:=zh (show ¬RowOk ps k→ok=false from fun hr=>hok.not (fun r=>hr (r.2 k (by omega))))
   have GOOD:=zh (show RowOk ps k→∀i,i<k+1→RowOk ps i from fun hr i hi=>by
    by_cases e:i=k
    ·subst e;exact hr
    ·exact(zu HG) i (by omega))
   generalize (el3 ps k).1=x at *
   generalize (el3 ps k).2.1=y at *
   generalize (el3 ps k).2.2=z at *
   go_wp2_with fail
   refine(keyOk x y b1 _ B1).mono ?_
   rintro e w1 ⟨rfl,n1⟩
   have s1:=n1.size
   have n2:Below wr.heap.size wr ((wr.alloc (.cells #[.int .i64 x,.int .i64 y,.int .i64 z] 119)).alloc (.cells #[.int .i64 x,.int .i64 y] 177)):=((Below.refl _ _).alloc (Nat.le_refl _) _).alloc (by simp) _
   have nb:=next n2 n1
   have f0:w1.cell? ⟨wr.heap.size+1,0,none⟩=some (.int .i64 x):=(n1.cell (p:=⟨wr.heap.size+1,0,none⟩) (by simp)).trans (by simp)
   have f1:w1.cell? ⟨wr.heap.size+1,1,none⟩=some (.int .i64 y):=(n1.cell (p:=⟨wr.heap.size+1,1,none⟩) (by simp)).trans (by simp)
   have f2:w1.cell? ⟨wr.heap.size,2,none⟩=some (.int .i64 z):=(n1.cell (p:=⟨wr.heap.size,2,none⟩) (by simp;omega)).trans (by simp)
   have NB:=zh nb
   have O1:=zh ((zu HO).below nb (zu HO).lt.2)
   simp only[World.size_alloc] at s1
   clear n1 n2 nb e1 e2 e3
   cases b1
   ·have OKF:=zh ((zu BAD) (fun hr=>B1.no ((zu ROW).1 hr).1))
    clear BAD GOOD ROW
    go_wp2
    go_ret
    exact⟨by rw[zu OKF];rfl,next (zu HB) (zu NB)⟩
   obtain⟨o0,o1⟩:=(zu O1).at 0 (by simp)
   have o0:w1.cell? ⟨w.heap.size,0,none⟩=some (.int .i64 p):=o0
   have o1:w1.cell? ⟨w.heap.size,1,none⟩=some (.int .i64 q):=o1
   go_wp2_with fail
   refine(compareK x y p q _).mono ?_
   rintro e w2 ⟨rfl,n2⟩
   have s2:=n2.size
   have f0:=(n2.cell (p:=⟨wr.heap.size+1,0,none⟩) (show wr.heap.size+1<_ by omega)).trans f0
   have f1:=(n2.cell (p:=⟨wr.heap.size+1,1,none⟩) (show wr.heap.size+1<_ by omega)).trans f1
   have f2:=(n2.cell (p:=⟨wr.heap.size,2,none⟩) (show wr.heap.size<_ by omega)).trans f2
   have O2:=zh ((zu O1).below n2 (zu O1).lt.2)
   have NB2:=zh (next (zu NB) n2)
   have CLE:=zh (cmpK_le x y p q)
   generalize cmpK x y p q=c at *
   clear n2 o0 o1
   by_cases c0:c≤0
   ·have OKF:=zh ((zu BAD) (fun hr=>(zu CLE).1 c0 ((zu ROW).1 hr).2.1))
    clear BAD GOOD ROW CLE
    go_wp2
    go_ret
    exact⟨by rw[zu OKF];rfl,next (zu HB) (zu NB2)⟩
   go_wp2_with fail
   refine(iAmt z b3 _ B3).mono ?_
   rintro e w3 ⟨rfl,rfl⟩
   cases b3
   ·have OKF:=zh ((zu BAD) (fun hr=>B3.no ((zu ROW).1 hr).2.2.1))
    clear BAD GOOD ROW CLE
    go_wp2
    go_ret
    exact⟨by rw[zu OKF];rfl,next (zu HB) (zu NB2)⟩
   by_cases z0:z=0
   ·have OKF:=zh ((zu BAD) (fun hr=>((zu ROW).1 hr).2.2.2 z0))
    clear BAD GOOD ROW CLE
    subst z0
    go_wp2
    go_ret
    exact⟨by rw[zu OKF];rfl,next (zu HB) (zu NB2)⟩
   have zb:(z==0)=false:=by simpa using z0
   have GO:=zh ((zu GOOD) ((zu ROW).2 ⟨B1.yes,Classical.byContradiction (fun h=>by have:=(zu CLE).2 h;omega),B3.yes,z0⟩))
   clear BAD GOOD ROW CLE
   have S0:=(zu O2).set0 0 x
   have S1:=S0.1.set1 0 y
   obtain⟨d0,d1⟩:=(zu O2).at 0 (by simp)
   have d0:w3.cell? ⟨w.heap.size,0,none⟩=some (.int .i64 p):=d0
   have d1:w3.cell? ⟨w.heap.size,1,none⟩=some (.int .i64 q):=d1
   have r0:w3.frozen? ⟨w.heap.size,0,none⟩=false:=(zu O2).free 0
   have r1:w3.frozen? ⟨w.heap.size,1,none⟩=false:=(zu O2).free 1
   have HS:=zh S1.1
   have BB:=zh (((next (zu HB) (zu NB2)).setCell (p:=⟨w.heap.size,0,none⟩) (Nat.le_refl _) (.int .i64 x)).setCell (p:=⟨w.heap.size,1,none⟩) (Nat.le_refl _) (.int .i64 y))
   clear S0 S1
   go_wp2
   go_roundw
   case rel=>exact⟨k+1,(x,y),by omega,by go_num,AN,zu BB,zu HS,GO⟩
   case measure=>simp[intOf];omega
  ·obtain rfl:k=n:=by omega
   obtain rfl:ok=true:=hok.of ⟨by omega,by rw[hl];exact zu HG⟩
   have HB:=zh hb
   clear hb hok ho
   go_wp2
   go_ret
   exact⟨rfl,zu HB⟩
end IOk3
namespace CmpL
open Tup5 Lots Takes
def cmpI(x y:Int):Int:=if x<y then-1 else if y<x then 1 else 0
theorem isNaN(x:Int)(w:World):Calls Tryz.prog 203 #[.int .i64 x] w fun e w'=>e= .returned (.bool false)∧w'=w:=by
 go_enter Tryz.func203,Tryz.ntmps203
 go_wp2
 go_ret
 exact⟨rfl,rfl⟩
theorem compare1(x y:Int)(w:World):Calls Tryz.prog 189 #[.int .i64 x,.int .i64 y] w fun e w'=>e= .returned (.int .i64 (cmpI x y))∧w'=w:=by
 unfold cmpI
 by_cases h:x<y
 ·go_enter Tryz.func189,Tryz.ntmps189
  go_wp2_with (go_at_call 203;refine(isNaN _ _).mono ?_;rintro e w1 ⟨rfl,rfl⟩)
  go_ret
  exact⟨by simp[h],rfl⟩
 ·by_cases k:y<x
  ·go_enter Tryz.func189,Tryz.ntmps189
   go_wp2_with (go_at_call 203;refine(isNaN _ _).mono ?_;rintro e w1 ⟨rfl,rfl⟩)
   go_ret
   exact⟨by simp[h,k],rfl⟩
  ·go_enter Tryz.func189,Tryz.ntmps189
   go_wp2_with (go_at_call 203;refine(isNaN _ _).mono ?_;rintro e w1 ⟨rfl,rfl⟩)
   go_ret
   exact⟨by simp[h,k],rfl⟩
def orI(x y:Int):Int:=if x=0 then y else x
theorem orL(g:Nat)(x y:Int)(w:World)(h0:w.cell? ⟨g,0,none⟩=some (.int .i64 x))(h1:w.cell? ⟨g,1,none⟩=some (.int .i64 y)):
  Calls Tryz.prog 188 #[.slice (some ⟨g,0,none⟩) 2 2] w fun e w'=>e= .returned (.int .i64 (orI x y))∧w'=w:=by
 unfold orI
 go_enter Tryz.func188,Tryz.ntmps188
 go_wp2
 go_loop [5,8] (fun _ i=>∃(k:Nat),i= .int .i64 k∧(k=0∨(k=1∧x=0)∨(k=2∧x=0∧y=0))) (fun _ i=>2-(intOf i).toNat)
 case atStart=>exact⟨0,rfl,.inl rfl⟩
 case round=>
  obtain⟨k,rfl,hk⟩:=hrel
  rcases hk with rfl|⟨rfl,rfl⟩|⟨rfl,rfl,rfl⟩
  ·by_cases z:x=0
   ·subst z
    go_wp2
    go_round
    case rel=>exact⟨1,by go_num,.inr (.inl ⟨rfl,by trivial⟩)⟩
    case measure=>simp[intOf]
   ·go_wp2
    go_ret
    exact⟨by simp[z],rfl⟩
  ·by_cases z:y=0
   ·subst z
    go_wp2
    go_round
    case rel=>exact⟨2,by go_num,.inr (.inr ⟨rfl,by trivial,by trivial⟩)⟩
    case measure=>simp[intOf]
   ·go_wp2
    go_ret
    exact⟨by simp,rfl⟩
  ·go_wp2
   go_ret
   exact⟨by simp,rfl⟩
def cmpK(a i b j:Int):Int:=orI (cmpI a b) (cmpI i j)
theorem cmpK_lt(a i b j:Int):cmpK a i b j<0↔(a<b∨(a=b∧i<j)):=by
 unfold cmpK orI cmpI
 repeat(first|split|omega)
theorem grow_below(w:World)(q:Nat)(os:Array Obj):Below w.heap.size w (Go.Sort.grow (w.drewN q) os):=
 ⟨rfl,rfl,rfl,by simp[Go.Sort.grow,World.drewN],fun k hk=>by
  show(w.heap++os)[k]?=w.heap[k]?
  rw[Array.getElem?_append_left hk]⟩
theorem compareG(a i b j:Int)(w:World):Calls Tryz.prog 169 #[.agg #[.int .i64 a,.int .i64 i],.agg #[.int .i64 b,.int .i64 j]] w fun e w'=>e= .returned (.int .i64 (cmpK a i b j))∧∃q os,w'=Go.Sort.grow (w.drewN q) os:=by
 unfold cmpK
 go_enter Tryz.func169,Tryz.ntmps169
 go_wp2_with fail
 have hu:∃os,(w.alloc (.cells #[.int .i64 a,.int .i64 i] 177)).alloc (.cells #[.int .i64 b,.int .i64 j] 177)=Go.Sort.grow w os:=⟨_,by rw[Go.Sort.alloc_eq_grow,Go.Sort.alloc_eq_grow,Go.Sort.grow_grow]⟩
 have c0:((w.alloc (.cells #[.int .i64 a,.int .i64 i] 177)).alloc (.cells #[.int .i64 b,.int .i64 j] 177)).cell? ⟨w.heap.size,0,none⟩=some (.int .i64 a):=by simp
 have c1:((w.alloc (.cells #[.int .i64 a,.int .i64 i] 177)).alloc (.cells #[.int .i64 b,.int .i64 j] 177)).cell? ⟨w.heap.size,1,none⟩=some (.int .i64 i):=by simp
 have c2:((w.alloc (.cells #[.int .i64 a,.int .i64 i] 177)).alloc (.cells #[.int .i64 b,.int .i64 j] 177)).cell? ⟨w.heap.size+1,0,none⟩=some (.int .i64 b):=by simp
 have c3:((w.alloc (.cells #[.int .i64 a,.int .i64 i] 177)).alloc (.cells #[.int .i64 b,.int .i64 j] 177)).cell? ⟨w.heap.size+1,1,none⟩=some (.int .i64 j):=by simp
 have HU:=zh hu
 clear hu
 generalize (w.alloc (.cells #[.int .i64 a,.int .i64 i] 177)).alloc (.cells #[.int .i64 b,.int .i64 j] 177)=u at *
 generalize w.heap.size+1=h1 at *
 generalize w.heap.size=h0 at *
 go_region_held3 (fun w'=>w'.cell? ⟨h0,0,none⟩=some (.int .i64 a)∧w'.cell? ⟨h0,1,none⟩=some (.int .i64 i)∧w'.cell? ⟨h1,0,none⟩=some (.int .i64 b)∧w'.cell? ⟨h1,1,none⟩=some (.int .i64 j)) (go_keep)
  (first|(go_at_call 189;refine(compare1 _ _ _).mono ?_;rintro e w1 ⟨rfl,rfl⟩)|(go_at_call 188;refine(orL u.heap.size (cmpI a b) (cmpI i j) _ ?_ ?_).mono ?_;(simp);(simp);rintro e w1 ⟨rfl,rfl⟩))
 all_goals(go_wp2;go_ret)
 all_goals(obtain⟨os,rfl⟩:=zu HU;exact⟨rfl,1,_,by rw[Go.Sort.alloc_eq_grow];exact Go.Sort.grow_grow (w.drewN 1) _ _⟩)
theorem compareK(a i b j:Int)(w:World):Calls Tryz.prog 169 #[.agg #[.int .i64 a,.int .i64 i],.agg #[.int .i64 b,.int .i64 j]] w fun e w'=>e= .returned (.int .i64 (cmpK a i b j))∧Below w.heap.size w w':=
 (compareG a i b j w).mono fun _ _ ⟨he,q,os,hw⟩=>⟨he,by rw[hw];exact grow_below w q os⟩
theorem keyOk(a i:Int)(b:Bool)(w:World)(h:Says b (NoOk a∧NoOk i)):Calls Tryz.prog 168 #[.agg #[.int .i64 a,.int .i64 i]] w fun e w'=>e= .returned (.bool b)∧Below w.heap.size w w':=by
 have hb:Below w.heap.size w (w.alloc (.cells #[.int .i64 a,.int .i64 i] 177)):=(Below.refl _ _).alloc (Nat.le_refl _) _
 by_cases c1:1≤a
 ·by_cases c2:a≤1000
  ·by_cases c3:1≤i
   ·by_cases c4:i≤1000
    ·obtain rfl:b=true:=h.of ⟨⟨c1,c2⟩,c3,c4⟩
     clear h
     go_enter Tryz.func168,Tryz.ntmps168
     go_wp2
     go_ret
     exact⟨rfl,hb⟩
    ·obtain rfl:b=false:=h.not (fun r=>by unfold NoOk at r;omega)
     clear h
     go_enter Tryz.func168,Tryz.ntmps168
     go_wp2
     go_ret
     exact⟨rfl,hb⟩
   ·obtain rfl:b=false:=h.not (fun r=>by unfold NoOk at r;omega)
    clear h
    go_enter Tryz.func168,Tryz.ntmps168
    go_wp2
    go_ret
    exact⟨rfl,hb⟩
  ·obtain rfl:b=false:=h.not (fun r=>by unfold NoOk at r;omega)
   clear h
   go_enter Tryz.func168,Tryz.ntmps168
   go_wp2
   go_ret
   exact⟨rfl,hb⟩
 ·obtain rfl:b=false:=h.not (fun r=>by unfold NoOk at r;omega)
  clear h
  go_enter Tryz.func168,Tryz.ntmps168
  go_wp2
  go_ret
  exact⟨rfl,hb⟩
theorem iAmt(x:Int)(b:Bool)(w:World)(h:Says b (Amt x)):Calls Tryz.prog 103 #[.int .i64 x] w fun e w'=>e= .returned (.bool b)∧w'=w:=by
 by_cases c1: -1000000000000000≤x
 ·by_cases c2:x≤1000000000000000
  ·obtain rfl:b=true:=h.of ⟨c1,c2⟩
   clear h
   go_enter Tryz.func103,Tryz.ntmps103
   go_wp2
   go_ret
   exact⟨rfl,rfl⟩
  ·obtain rfl:b=false:=h.not (fun r=>by unfold Amt at r;omega)
   clear h
   go_enter Tryz.func103,Tryz.ntmps103
   go_wp2
   go_ret
   exact⟨rfl,rfl⟩
 ·obtain rfl:b=false:=h.not (fun r=>by unfold Amt at r;omega)
  clear h
  go_enter Tryz.func103,Tryz.ntmps103
  go_wp2
  go_ret
  exact⟨rfl,rfl⟩
theorem eqKey(a i b j:Int)(w:World):(Op.equalIn 10000 177 (.agg #[.int .i64 a,.int .i64 i]) (.agg #[.int .i64 b,.int .i64 j])).run Tryz.prog w= .ok (a==b&&i==j) w:=by
 have u3:=Tryz.underlying3
 have a3:=Tryz.isAgg3
 have z3:=Tryz.sizeOf3
 have hS:Tryz.prog.underlying 177=some (.struct (Tryz.prog.fieldsOf 177)):=by kernel_rfl
 have hp:Tryz.prog.stoodInHeld 177=false:=by kernel_rfl
 rw[show(10000:Nat)=9999+1 from rfl,run_equalIn_agg w 9999 177 _ _ hS hp]
 simp only[Program.fieldsOf,Tryz.underlying177]
 go_simp
 by_cases h1:a=b<;>by_cases h2:i=j<;>simp[h1,h2]
theorem guardKey:Tryz.prog.eqGuardType Tryz.prog.depth 177=false:=by kernel_rfl
theorem keyL(x0 x1 x2 x3 x4:Int)(w:World):Calls Tryz.prog 154 #[.agg #[.int .i64 x0,.int .i64 x1,.int .i64 x2,.int .i64 x3,.int .i64 x4]] w fun e w'=>e= .returned (.agg #[.int .i64 x0,.int .i64 x1])∧Below w.heap.size w w':=by
 go_enter Tryz.func154,Tryz.ntmps154
 go_wp2
 refine bodyPost_ret (v:= .agg #[.int .i64 x0,.int .i64 x1]) (by simp[results,Tryz.results154,go_sem]) rfl ⟨rfl,by repeat(first|exact Below.refl _ _|refine Below.alloc ?_ (by simp;try omega) _)⟩
theorem at0{w:World}{g:Nat}{x0 x1 x2 x3 x4:Int}(h:Holds5 w g 0 (x0,x1,x2,x3,x4)):w.cell? ⟨g,0,none⟩=some (.int .i64 x0)∧w.cell? ⟨g,1,none⟩=some (.int .i64 x1)∧w.cell? ⟨g,2,none⟩=some (.int .i64 x2)∧w.cell? ⟨g,3,none⟩=some (.int .i64 x3)∧w.cell? ⟨g,4,none⟩=some (.int .i64 x4):=h
def cmpL(p q:T5):Int:=orI (cmpK p.1 p.2.1 q.1 q.2.1) (cmpI p.2.2.1 q.2.2.1)
theorem cmpL_le(p q:T5):cmpL p q≤0↔¬Bef q p:=by
 unfold cmpL cmpK orI cmpI Bef
 repeat(first|split|omega)
theorem compareLot(x0 x1 x2 x3 x4 y0 y1 y2 y3 y4:Int)(w:World):Calls Tryz.prog 178 #[.agg #[.int .i64 x0,.int .i64 x1,.int .i64 x2,.int .i64 x3,.int .i64 x4],.agg #[.int .i64 y0,.int .i64 y1,.int .i64 y2,.int .i64 y3,.int .i64 y4]] w fun e w'=>e= .returned (.int .i64 (cmpL (x0,x1,x2,x3,x4) (y0,y1,y2,y3,y4)))∧Below w.heap.size w w':=by
 unfold cmpL
 have X:=zh (show Holds5 ((w.alloc (.cells #[.int .i64 x0,.int .i64 x1,.int .i64 x2,.int .i64 x3,.int .i64 x4] 123)).alloc (.cells #[.int .i64 y0,.int .i64 y1,.int .i64 y2,.int .i64 y3,.int .i64 y4] 123)) w.heap.size 0 (x0,x1,x2,x3,x4) from by unfold Holds5;simp)
 have Y:=zh (show Holds5 ((w.alloc (.cells #[.int .i64 x0,.int .i64 x1,.int .i64 x2,.int .i64 x3,.int .i64 x4] 123)).alloc (.cells #[.int .i64 y0,.int .i64 y1,.int .i64 y2,.int .i64 y3,.int .i64 y4] 123)) (w.heap.size+1) 0 (y0,y1,y2,y3,y4) from by unfold Holds5;simp)
 have B:=zh (show Below w.heap.size w ((w.alloc (.cells #[.int .i64 x0,.int .i64 x1,.int .i64 x2,.int .i64 x3,.int .i64 x4] 123)).alloc (.cells #[.int .i64 y0,.int .i64 y1,.int .i64 y2,.int .i64 y3,.int .i64 y4] 123)) from((Below.refl _ _).alloc (Nat.le_refl _) _).alloc (by simp) _)
 have hx:w.heap.size<((w.alloc (.cells #[.int .i64 x0,.int .i64 x1,.int .i64 x2,.int .i64 x3,.int .i64 x4] 123)).alloc (.cells #[.int .i64 y0,.int .i64 y1,.int .i64 y2,.int .i64 y3,.int .i64 y4] 123)).heap.size:=by simp;omega
 have hy:w.heap.size+1<((w.alloc (.cells #[.int .i64 x0,.int .i64 x1,.int .i64 x2,.int .i64 x3,.int .i64 x4] 123)).alloc (.cells #[.int .i64 y0,.int .i64 y1,.int .i64 y2,.int .i64 y3,.int .i64 y4] 123)).heap.size:=by simp
 go_enter Tryz.func178,Tryz.ntmps178
 go_wp2_with fail
 generalize (w.alloc (.cells #[.int .i64 x0,.int .i64 x1,.int .i64 x2,.int .i64 x3,.int .i64 x4] 123)).alloc (.cells #[.int .i64 y0,.int .i64 y1,.int .i64 y2,.int .i64 y3,.int .i64 y4] 123)=u at *
 obtain⟨h1,H1⟩:∃h1,Hid (h1=w.heap.size+1):=⟨_,rfl⟩
 obtain⟨h0,H0⟩:∃h0,Hid (h0=w.heap.size):=⟨_,rfl⟩
 rw[←zu H1] at hy Y⊢
 rw[←zu H0] at hx X⊢
 obtain⟨c0,c1,c2,c3,c4⟩:=at0 (zu X)
 obtain⟨e0,e1,e2,e3,e4⟩:=at0 (zu Y)
 have bb:Below u.heap.size u u.drew:=(Below.refl _ _).drew
 go_region_held3 (fun w'=>w'.cell? ⟨h0,0,none⟩=some (.int .i64 x0)∧w'.cell? ⟨h0,1,none⟩=some (.int .i64 x1)∧w'.cell? ⟨h0,2,none⟩=some (.int .i64 x2)∧w'.cell? ⟨h0,3,none⟩=some (.int .i64 x3)∧w'.cell? ⟨h0,4,none⟩=some (.int .i64 x4)∧w'.cell? ⟨h1,0,none⟩=some (.int .i64 y0)∧w'.cell? ⟨h1,1,none⟩=some (.int .i64 y1)∧w'.cell? ⟨h1,2,none⟩=some (.int .i64 y2)∧w'.cell? ⟨h1,3,none⟩=some (.int .i64 y3)∧w'.cell? ⟨h1,4,none⟩=some (.int .i64 y4)) (go_keep)
  (first|(go_at_call 154;refine(keyL _ _ _ _ _ _).mono ?_;rintro e w1 ⟨rfl,n1⟩;replace bb:=next bb n1;obtain⟨c0,c1,c2,c3,c4⟩:=at0 ((zu X).below bb hx);obtain⟨e0,e1,e2,e3,e4⟩:=at0 ((zu Y).below bb hy);clear n1)|(go_at_call 169;refine(compareK _ _ _ _ _).mono ?_;rintro e w1 ⟨rfl,n1⟩;replace bb:=next bb n1;obtain⟨c0,c1,c2,c3,c4⟩:=at0 ((zu X).below bb hx);obtain⟨e0,e1,e2,e3,e4⟩:=at0 ((zu Y).below bb hy);clear n1)|(go_at_call 189;refine(compare1 _ _ _).mono ?_;rintro e w1 ⟨rfl,rfl⟩)|(go_at_call 188;refine(orL _ (cmpK x0 x1 y0 y1) (cmpI x2 y2) _ ?_ ?_).mono ?_;(simp);(simp);rintro e w1 ⟨rfl,rfl⟩))
 all_goals(go_wp2;go_ret)
 all_goals exact⟨rfl,(next (zu B) bb).alloc (next (zu B) bb).size _⟩
theorem lotOk(x0 x1 x2 x3 x4:Int)(b:Bool)(w:World)(hb:Says b (One (x0,x1,x2,x3,x4))):Calls Tryz.prog 177 #[.agg #[.int .i64 x0,.int .i64 x1,.int .i64 x2,.int .i64 x3,.int .i64 x4]] w fun e w'=>e= .returned (.bool b)∧Below w.heap.size w w':=by
 obtain⟨b1,B1⟩:=says_of (NoOk x0∧NoOk x1)
 have X:=zh (show Holds5 (w.alloc (.cells #[.int .i64 x0,.int .i64 x1,.int .i64 x2,.int .i64 x3,.int .i64 x4] 123)) w.heap.size 0 (x0,x1,x2,x3,x4) from by unfold Holds5;simp)
 have B:=zh (show Below w.heap.size w (w.alloc (.cells #[.int .i64 x0,.int .i64 x1,.int .i64 x2,.int .i64 x3,.int .i64 x4] 123)) from(Below.refl _ _).alloc (Nat.le_refl _) _)
 have hx:w.heap.size<(w.alloc (.cells #[.int .i64 x0,.int .i64 x1,.int .i64 x2,.int .i64 x3,.int .i64 x4] 123)).heap.size:=by simp
 go_enter Tryz.func177,Tryz.ntmps177
 go_wp2_with fail
 refine(keyL x0 x1 x2 x3 x4 _).mono ?_
 rintro e w1 ⟨rfl,n1⟩
 have X1:=zh ((zu X).below n1 hx)
 have hx1:w.heap.size<w1.heap.size:=Nat.lt_of_lt_of_le hx n1.size
 have N1:=zh (next (zu B) n1)
 clear X B hx n1
 go_wp2_with fail
 refine(keyOk x0 x1 b1 _ B1).mono ?_
 rintro e w2 ⟨rfl,n2⟩
 obtain⟨c0,c1,c2,c3,c4⟩:=at0 ((zu X1).below n2 hx1)
 have N2:=zh (next (zu N1) n2)
 clear X1 N1 n2
 cases b1
 ·obtain rfl:b=false:=hb.not (fun r=>B1.no ⟨r.1,r.2.1⟩)
  go_wp2
  go_ret
  exact⟨rfl,zu N2⟩
 by_cases t0:1≤x2
 rotate_left
 ·obtain rfl:b=false:=hb.not (fun r=>t0 r.2.2.1.1)
  clear hb
  go_wp2
  go_ret
  exact⟨rfl,zu N2⟩
 by_cases t1:x2≤1000000000
 rotate_left
 ·obtain rfl:b=false:=hb.not (fun r=>t1 r.2.2.1.2)
  clear hb
  go_wp2
  go_ret
  exact⟨rfl,zu N2⟩
 by_cases t2:1≤x3
 rotate_left
 ·obtain rfl:b=false:=hb.not (fun r=>t2 r.2.2.2.1.1)
  clear hb
  go_wp2
  go_ret
  exact⟨rfl,zu N2⟩
 by_cases t3:x3≤1000000000000000
 rotate_left
 ·obtain rfl:b=false:=hb.not (fun r=>t3 r.2.2.2.1.2)
  clear hb
  go_wp2
  go_ret
  exact⟨rfl,zu N2⟩
 by_cases t4:0≤x4
 rotate_left
 ·obtain rfl:b=false:=hb.not (fun r=>t4 r.2.2.2.2.1)
  clear hb
  go_wp2
  go_ret
  exact⟨rfl,zu N2⟩
 by_cases t5:x4≤1000000000000000
 rotate_left
 ·obtain rfl:b=false:=hb.not (fun r=>t5 r.2.2.2.2.2)
  clear hb
  go_wp2
  go_ret
  exact⟨by rw[decide_eq_false (show ¬x4≤1000000000000000 by omega)];rfl,zu N2⟩
 obtain rfl:b=true:=hb.of ⟨B1.yes.1,B1.yes.2,⟨t0,t1⟩,⟨t2,t3⟩,t4,t5⟩
 clear hb
 go_wp2
 go_ret
 exact⟨rfl,zu N2⟩
end CmpL
namespace IOk5
open Tup5 Lots Takes CmpL Quieter
def ahead(ps:List T5)(k:Nat):T5:=if k=0 then(0,0,0,0,0) else el5 ps (k-1)
theorem ahead_next(ps:List T5)(k:Nat):ahead ps (k+1)=el5 ps k:=by unfold ahead;rw[if_neg (by omega)];rfl
theorem row_iff(ps:List T5)(k:Nat):RowOk ps k↔One (el5 ps k)∧Bef (ahead ps k) (el5 ps k):=by
 unfold RowOk ahead
 by_cases k0:k=0
 ·subst k0
  rw[if_pos rfl]
  constructor
  ·rintro⟨a,_⟩
   exact⟨a,by have:=a.1;unfold NoOk at this;unfold Bef;simp only;omega⟩
  ·rintro⟨a,_⟩
   exact⟨a,fun h=>by omega⟩
 ·rw[if_neg k0]
  exact⟨fun h=>⟨h.1,h.2 (by omega)⟩,fun h=>⟨h.1,fun _=>h.2⟩⟩
theorem own_drewN{e:TypeId}{w:World}{base g n cap:Nat}{ps:List T5}(h:Own5 e w base g n cap ps)(m:Nat):Own5 e (w.drewN m) base g n cap ps:=h
theorem holds_drewN{w:World}{g o:Nat}{p:T5}(h:Holds5 w g o p)(m:Nat):Holds5 (w.drewN m) g o p:=h
theorem store5{e:TypeId}{w:World}{base g:Nat}{p:T5}(h:Own5 e w base g 1 1 [p])(x0 x1 x2 x3 x4:Int):
  Own5 e (((((w.setCell ⟨g,0,none⟩ (.int .i64 x0)).setCell ⟨g,1,none⟩ (.int .i64 x1)).setCell ⟨g,2,none⟩ (.int .i64 x2)).setCell ⟨g,3,none⟩ (.int .i64 x3)).setCell ⟨g,4,none⟩ (.int .i64 x4)) base g 1 1 [(x0,x1,x2,x3,x4)]∧
   w.grownBy (((((w.setCell ⟨g,0,none⟩ (.int .i64 x0)).setCell ⟨g,1,none⟩ (.int .i64 x1)).setCell ⟨g,2,none⟩ (.int .i64 x2)).setCell ⟨g,3,none⟩ (.int .i64 x3)).setCell ⟨g,4,none⟩ (.int .i64 x4)) (some g):=by
 have s0:=h.set0 0 x0
 have s1:=s0.1.set1 0 x1
 have s2:=s1.1.set2 0 x2
 have s3:=s2.1.set3 0 x3
 have s4:=s3.1.set4 0 x4
 exact⟨s4.1,grown_trans (grown_trans (grown_trans (grown_trans s0.2 s1.2) s2.2) s3.2) s4.2⟩
theorem iOk(w:World)(g n cap:Nat)(ps:List T5)(ok:Bool)(hl:ps.length=n)(h20:n≤1048576)(hg:g<w.heap.size)(h:At5 w g ps)(hok:Says ok (Right ps)):
  Calls Tryz.prog 151 #[.slice (some ⟨g,0,none⟩) n cap] w fun e w'=>e= .returned (.bool ok)∧Below w.heap.size w w':=by
 by_cases nn:(120:Int)<(n:Int)
 ·obtain rfl:ok=false:=hok.not (fun r=>by have:=r.1;omega)
  clear hok h
  go_enter Tryz.func151,Tryz.ntmps151
  go_wp2
  go_ret
  exact⟨rfl,Below.refl _ _⟩
 have H:=zh h
 clear h
 have O0:=zh (show Own5 123 (w.alloc (.cells #[.int .i64 0,.int .i64 0,.int .i64 0,.int .i64 0,.int .i64 0] 123)) w.heap.size w.heap.size 1 1 [(0,0,0,0,0)] from lit51 123 w w.heap.size 0 0 0 0 0 (Nat.le_refl _))
 go_enter Tryz.func151,Tryz.ntmps151
 go_wp2
 go_loopw [4,5,7,14] (fun q c _ i wr=>∃(k:Nat) (sq sc:Int) (bf:T5),k≤n∧i= .int .i64 k∧q= .int .i64 sq∧c= .int .i64 sc∧0≤sq∧sq≤1000000000000000∧0≤sc∧sc≤1000000000000000∧Hid (ahead ps k=bf)∧Below w.heap.size w wr∧Own5 123 wr w.heap.size w.heap.size 1 1 [bf]∧Hid (∀i,i<k→RowOk ps i∧(run ps i).1≤1000000000000000∧(run ps i).2≤1000000000000000)∧Hid (0<k→(sq,sc)=run ps (k-1))) (fun _ _ _ i _=>n-(intOf i).toNat)
 case atStart=>exact⟨0,0,0,(0,0,0,0,0),by omega,rfl,rfl,rfl,by omega,by omega,by omega,by omega,zh rfl,(Below.refl _ _).alloc (Nat.le_refl _) _,zu O0,zh (fun i hi=>absurd hi (by omega)),zh (fun h0=>absurd h0 (by omega))⟩
 case round=>
  clear O0
  obtain⟨k,sq,sc,⟨z0,z1,z2,z3,z4⟩,hk,rfl,rfl,rfl,sq0,sq1,sc0,sc1,HP,hb,ho,HG,HS⟩:=hrel
  by_cases t:k<n
  ·have hA:=(zu H).below hb hg
   obtain⟨e0,e1,e2,e3,e4⟩:=hA k (by omega)
   have gs:w.heap.size<wr.heap.size:=ho.lt.2
   clear hA
   have HB:=zh hb
   clear hb
   have HO:=zh ho
   clear ho
   have ROW:=zh (show RowOk ps k↔One ((el5 ps k).1,(el5 ps k).2.1,(el5 ps k).2.2.1,(el5 ps k).2.2.2.1,(el5 ps k).2.2.2.2)∧Bef (z0,z1,z2,z3,z4) ((el5 ps k).1,(el5 ps k).2.1,(el5 ps k).2.2.1,(el5 ps k).2.2.2.1,(el5 ps k).2.2.2.2) from by rw[row_iff,zu HP])
   have RUN:=zh (show RowOk ps k→run ps k=(if(el5 ps k).1≠z0∨(el5 ps k).2.1≠z1 then((el5 ps k).2.2.2.1,(el5 ps k).2.2.2.2) else(sq+(el5 ps k).2.2.2.1,sc+(el5 ps k).2.2.2.2)) from fun hr=>by
    rw[run_next (by omega) (fun i hi=>by
     by_cases e:i=k
     ·subst e;exact hr
     ·exact((zu HG) i (by omega)).1)]
    have hz:=zu HP
    unfold ahead at hz
    by_cases k0:k=0
    ·rw[if_pos k0] at hz
     have z00:z0=0:=by have:=congrArg Prod.fst hz;simpa using this.symm
     have one:=hr.1.1
     unfold NoOk at one
     rw[if_pos (.inl k0),if_pos (.inl (by omega))]
    ·rw[if_neg k0] at hz
     have h0:(el5 ps (k-1)).1=z0:=by rw[hz]
     have h1:(el5 ps (k-1)).2.1=z1:=by rw[hz]
     rw[h0,h1]
     by_cases c:(el5 ps k).1≠z0∨(el5 ps k).2.1≠z1
     ·rw[if_pos (.inr c),if_pos c]
     ·rw[if_neg (by omega),if_neg c,←(zu HS) (by omega)])
   have BAD:=zh (show ¬(RowOk ps k∧(run ps k).1≤1000000000000000∧(run ps k).2≤1000000000000000)→ok=false from fun hr=>hok.not (fun r=>hr ((right_iff ps (by omega)).1 r k (by omega))))
   have GOOD:=zh (show RowOk ps k∧(run ps k).1≤1000000000000000∧(run ps k).2≤1000000000000000→∀i,i<k+1→RowOk ps i∧(run ps i).1≤1000000000000000∧(run ps i).2≤1000000000000000 from fun hr i hi=>by
    by_cases e:i=k
    ·subst e;exact hr
    ·exact(zu HG) i (by omega))
   have AN:=zh (ahead_next ps k)
   obtain⟨rq,rc,RQ⟩:∃rq rc,Hid (run ps k=(rq,rc)):=⟨_,_,rfl⟩
   rw[zu RQ] at RUN BAD GOOD
   rw[show el5 ps k=((el5 ps k).1,(el5 ps k).2.1,(el5 ps k).2.2.1,(el5 ps k).2.2.2.1,(el5 ps k).2.2.2.2) from rfl] at AN
   clear HG HS HP
   generalize (el5 ps k).1=x0 at *
   generalize (el5 ps k).2.1=x1 at *
   generalize (el5 ps k).2.2.1=x2 at *
   generalize (el5 ps k).2.2.2.1=x3 at *
   generalize (el5 ps k).2.2.2.2=x4 at *
   obtain⟨b1,B1⟩:=says_of (One (x0,x1,x2,x3,x4))
   have ONE:=zh (show Below wr.heap.size wr (wr.alloc (.cells #[.int .i64 x0,.int .i64 x1,.int .i64 x2,.int .i64 x3,.int .i64 x4] 123)) from(Below.refl _ _).alloc (Nat.le_refl _) _)
   have X:=zh (show Holds5 (wr.alloc (.cells #[.int .i64 x0,.int .i64 x1,.int .i64 x2,.int .i64 x3,.int .i64 x4] 123)) wr.heap.size 0 (x0,x1,x2,x3,x4) from by unfold Holds5;simp)
   have hx:wr.heap.size<(wr.alloc (.cells #[.int .i64 x0,.int .i64 x1,.int .i64 x2,.int .i64 x3,.int .i64 x4] 123)).heap.size:=by simp
   have O1:=zh ((zu HO).alloc (.cells #[.int .i64 x0,.int .i64 x1,.int .i64 x2,.int .i64 x3,.int .i64 x4] 123))
   have BB:=zh (next (zu HB) (zu ONE))
   clear ONE HO
   go_wp2_with fail
   generalize wr.alloc (.cells #[.int .i64 x0,.int .i64 x1,.int .i64 x2,.int .i64 x3,.int .i64 x4] 123)=u at *
   generalize wr.heap.size=yb at *
   refine(lotOk x0 x1 x2 x3 x4 b1 _ B1).mono ?_
   rintro e w1 ⟨rfl,n1⟩
   have X:=zh ((zu X).below n1 hx)
   have O1:=zh ((zu O1).below n1 (zu O1).lt.2)
   have BB:=zh (next (zu BB) n1)
   have hx:=Nat.lt_of_lt_of_le hx n1.size
   clear n1 e0 e1 e2 e3 e4
   cases b1
   ·have OKF:=zh ((zu BAD) (fun hr=>B1.no ((zu ROW).1 hr.1).1))
    clear BAD GOOD ROW RUN
    go_wp2
    go_ret
    exact⟨by rw[zu OKF];rfl,zu BB⟩
   have o:=B1.yes
   obtain⟨_,_,_,⟨x3l,x3h⟩,x4l,x4h⟩:NoOk x0∧NoOk x1∧(1≤x2∧x2≤1000000000)∧(1≤x3∧x3≤1000000000000000)∧(0≤x4∧x4≤1000000000000000):=o
   obtain⟨c0,c1,c2,c3,c4⟩:=at0 (zu X)
   obtain⟨d0,d1,d2,d3,d4⟩:=at0 ((zu O1).at 0 (by simp))
   go_wp2_with fail
   refine(compareLot x0 x1 x2 x3 x4 z0 z1 z2 z3 z4 _).mono ?_
   rintro e w2 ⟨rfl,n2⟩
   have X:=zh ((zu X).below n2 hx)
   have O2:=zh ((zu O1).below n2 (zu O1).lt.2)
   have BB:=zh (next (zu BB) n2)
   have hx:=Nat.lt_of_lt_of_le hx n2.size
   clear n2 c0 c1 c2 c3 c4 d0 d1 d2 d3 d4 O1
   have CLE:=zh (cmpL_le (x0,x1,x2,x3,x4) (z0,z1,z2,z3,z4))
   generalize cmpL (x0,x1,x2,x3,x4) (z0,z1,z2,z3,z4)=c at *
   by_cases c9:c≤0
   ·have OKF:=zh ((zu BAD) (fun hr=>(zu CLE).1 c9 ((zu ROW).1 hr.1).2))
    clear BAD GOOD ROW RUN CLE
    go_wp2
    go_ret
    exact⟨by rw[zu OKF];rfl,zu BB⟩
   have RK:=zh ((zu ROW).2 ⟨B1.yes,Classical.byContradiction (fun h=>by have:=(zu CLE).2 h;omega)⟩)
   clear CLE
   obtain⟨c0,c1,c2,c3,c4⟩:=at0 (zu X)
   obtain⟨d0,d1,d2,d3,d4⟩:=at0 ((zu O2).at 0 (by simp))
   go_wp2_with fail
   have C0:∀n:Near w2,n.u.cell? ⟨yb,0,none⟩=some (.int .i64 x0):=fun n=>(n.b.cell (p:=⟨yb,0,none⟩) hx).trans c0
   have C1:∀n:Near w2,n.u.cell? ⟨yb,1,none⟩=some (.int .i64 x1):=fun n=>(n.b.cell (p:=⟨yb,1,none⟩) hx).trans c1
   have C2:∀n:Near w2,n.u.cell? ⟨yb,2,none⟩=some (.int .i64 x2):=fun n=>(n.b.cell (p:=⟨yb,2,none⟩) hx).trans c2
   have C3:∀n:Near w2,n.u.cell? ⟨yb,3,none⟩=some (.int .i64 x3):=fun n=>(n.b.cell (p:=⟨yb,3,none⟩) hx).trans c3
   have C4:∀n:Near w2,n.u.cell? ⟨yb,4,none⟩=some (.int .i64 x4):=fun n=>(n.b.cell (p:=⟨yb,4,none⟩) hx).trans c4
   have hz:=(zu O2).lt.2
   have D0:∀n:Near w2,n.u.cell? ⟨w.heap.size,0,none⟩=some (.int .i64 z0):=fun n=>(n.b.cell (p:=⟨w.heap.size,0,none⟩) hz).trans d0
   have D1:∀n:Near w2,n.u.cell? ⟨w.heap.size,1,none⟩=some (.int .i64 z1):=fun n=>(n.b.cell (p:=⟨w.heap.size,1,none⟩) hz).trans d1
   have D2:∀n:Near w2,n.u.cell? ⟨w.heap.size,2,none⟩=some (.int .i64 z2):=fun n=>(n.b.cell (p:=⟨w.heap.size,2,none⟩) hz).trans d2
   have D3:∀n:Near w2,n.u.cell? ⟨w.heap.size,3,none⟩=some (.int .i64 z3):=fun n=>(n.b.cell (p:=⟨w.heap.size,3,none⟩) hz).trans d3
   have D4:∀n:Near w2,n.u.cell? ⟨w.heap.size,4,none⟩=some (.int .i64 z4):=fun n=>(n.b.cell (p:=⟨w.heap.size,4,none⟩) hz).trans d4
   have near:=near_is w2
   have EQ:=eqKey x0 x1 z0 z1
   have GU:=guardKey
   by_cases same:x0=z0∧x1=z1
   ·obtain⟨rfl,rfl⟩:=same
    refine quiet_near (by kernel_rfl) (by kernel_rfl) ?_
    repeat(go_big_quiet_step (first
     |(go_at_call 154
       rename_i nn
       refine(keyL _ _ _ _ _ nn.u).mono ?_
       rintro e u6 ⟨rfl,b6⟩
       exact⟨rfl,⟨u6,next nn.b b6⟩,rfl⟩)))
    refine wpQuiet_nil ?_
    rintro u9 ⟨⟨_,b9⟩,rfl⟩
    have X:=zh ((zu X).below b9 hx)
    have O9:=zh ((zu O2).below b9 (zu O2).lt.2)
    have BB:=zh (next (zu BB) b9)
    clear b9 c0 c1 c2 c3 c4 d0 d1 d2 d3 d4 C0 C1 C2 C3 C4 D0 D1 D2 D3 D4 near EQ GU O2
    obtain⟨c0,c1,c2,c3,c4⟩:=at0 (zu X)
    obtain⟨d0,d1,d2,d3,d4⟩:=at0 ((zu O9).at 0 (by simp))
    obtain⟨b3,B3⟩:=says_of (Amt (sq+x3))
    obtain⟨b4,B4⟩:=says_of (Amt (sc+x4))
    have RE:=zh (show(rq,rc)=(sq+x3,sc+x4) from by rw[(zu RUN) (zu RK),if_neg (by omega)])
    have wS:IntKind.i64.wrap (sq+x3)=sq+x3:=by rw[IntKind.wrap_i64];omega
    have wT:IntKind.i64.wrap (sc+x4)=sc+x4:=by rw[IntKind.wrap_i64];omega
    go_wp2_with fail
    go_quiet (fail)
    have BB:=zh (below_drewN (zu BB) nq)
    have O9:=zh (own_drewN (zu O9) nq)
    have X:=zh (holds_drewN (zu X) nq)
    clear c0 c1 c2 c3 c4 d0 d1 d2 d3 d4
    generalize u9.drewN nq=u8 at *
    obtain⟨c0,c1,c2,c3,c4⟩:=at0 (zu X)
    obtain⟨d0,d1,d2,d3,d4⟩:=at0 ((zu O9).at 0 (by simp))
    go_wp2_with fail
    refine(iAmt (sq+x3) b3 _ B3).mono ?_
    rintro e w3 ⟨rfl,rfl⟩
    cases b3
    ·have OKF:=zh ((zu BAD) (fun hr=>B3.no (by have e:=congrArg Prod.fst (zu RE);have:=hr.2.1;unfold Amt;simp only at e;omega)))
     clear BAD GOOD ROW RUN RE
     go_wp2
     go_ret
     exact⟨by rw[zu OKF];rfl,zu BB⟩
    go_wp2_with fail
    refine(iAmt (sc+x4) b4 _ B4).mono ?_
    rintro e w4 ⟨rfl,rfl⟩
    cases b4
    ·have OKF:=zh ((zu BAD) (fun hr=>B4.no (by have e:=congrArg Prod.snd (zu RE);have:=hr.2.2;unfold Amt;simp only at e;omega)))
     clear BAD GOOD ROW RUN RE
     go_wp2
     go_ret
     exact⟨by rw[zu OKF];rfl,zu BB⟩
    have GO:=zh ((zu GOOD) ⟨zu RK,by have e:=congrArg Prod.fst (zu RE);have y:=B3.yes;unfold Amt at y;simp only at e;omega,by have e:=congrArg Prod.snd (zu RE);have y:=B4.yes;unfold Amt at y;simp only at e;omega⟩)
    have y3:=B3.yes.2
    have y4:=B4.yes.2
    have HS2:=zh (show 0<k+1→(sq+x3,sc+x4)=run ps (k+1-1) from fun _=>by rw[show k+1-1=k by omega,zu RQ];exact(zu RE).symm)
    have st:=store5 (zu O9) x0 x1 x2 x3 x4
    have r0:w4.frozen? ⟨w.heap.size,0,none⟩=false:=(zu O9).free 0
    have r1:w4.frozen? ⟨w.heap.size,1,none⟩=false:=(zu O9).free 1
    have r2:w4.frozen? ⟨w.heap.size,2,none⟩=false:=(zu O9).free 2
    have r3:w4.frozen? ⟨w.heap.size,3,none⟩=false:=(zu O9).free 3
    have r4:w4.frozen? ⟨w.heap.size,4,none⟩=false:=(zu O9).free 4
    have SO:=zh st.1
    have SB:=zh ((zu BB).grown st.2 (zu BB).size (fun j hj=>by cases hj;exact Nat.le_refl _))
    clear BAD GOOD ROW RUN HB st RE RQ BB
    go_wp2
    go_roundw
    case rel=>exact⟨k+1,sq+x3,sc+x4,(x0,x1,x2,x3,x4),by omega,by go_num,rfl,rfl,by omega,by omega,by omega,by omega,AN,zu SB,zu SO,GO,HS2⟩
    case measure=>simp[intOf];omega
   ·have ne:(x0==z0&&x1==z1)=false:=by
     rw[Bool.and_eq_false_iff,beq_eq_false_iff_ne,beq_eq_false_iff_ne]
     omega
    refine quiet_near (by kernel_rfl) (by kernel_rfl) ?_
    repeat(go_big_quiet_step (first
     |(go_at_call 154
       rename_i nn
       refine(keyL _ _ _ _ _ nn.u).mono ?_
       rintro e u6 ⟨rfl,b6⟩
       exact⟨rfl,⟨u6,next nn.b b6⟩,rfl⟩)))
    refine wpQuiet_nil ?_
    rintro u9 ⟨⟨_,b9⟩,rfl⟩
    have X:=zh ((zu X).below b9 hx)
    have O9:=zh ((zu O2).below b9 (zu O2).lt.2)
    have BB:=zh (next (zu BB) b9)
    clear b9 c0 c1 c2 c3 c4 d0 d1 d2 d3 d4 C0 C1 C2 C3 C4 D0 D1 D2 D3 D4 near EQ GU O2
    obtain⟨c0,c1,c2,c3,c4⟩:=at0 (zu X)
    obtain⟨d0,d1,d2,d3,d4⟩:=at0 ((zu O9).at 0 (by simp))
    obtain⟨b3,B3⟩:=says_of (Amt (x3))
    obtain⟨b4,B4⟩:=says_of (Amt (x4))
    have RE:=zh (show(rq,rc)=(x3,x4) from by rw[(zu RUN) (zu RK),if_pos (by omega)])
    have wS:IntKind.i64.wrap (x3)=x3:=by rw[IntKind.wrap_i64];omega
    have wT:IntKind.i64.wrap (x4)=x4:=by rw[IntKind.wrap_i64];omega
    go_wp2_with fail
    go_quiet (fail)
    have BB:=zh (below_drewN (zu BB) nq)
    have O9:=zh (own_drewN (zu O9) nq)
    have X:=zh (holds_drewN (zu X) nq)
    clear c0 c1 c2 c3 c4 d0 d1 d2 d3 d4
    generalize u9.drewN nq=u8 at *
    obtain⟨c0,c1,c2,c3,c4⟩:=at0 (zu X)
    obtain⟨d0,d1,d2,d3,d4⟩:=at0 ((zu O9).at 0 (by simp))
    go_wp2_with fail
    refine(iAmt (x3) b3 _ B3).mono ?_
    rintro e w3 ⟨rfl,rfl⟩
    cases b3
    ·have OKF:=zh ((zu BAD) (fun hr=>B3.no (by have e:=congrArg Prod.fst (zu RE);have:=hr.2.1;unfold Amt;simp only at e;omega)))
     clear BAD GOOD ROW RUN RE
     go_wp2
     go_ret
     exact⟨by rw[zu OKF];rfl,zu BB⟩
    go_wp2_with fail
    refine(iAmt (x4) b4 _ B4).mono ?_
    rintro e w4 ⟨rfl,rfl⟩
    cases b4
    ·have OKF:=zh ((zu BAD) (fun hr=>B4.no (by have e:=congrArg Prod.snd (zu RE);have:=hr.2.2;unfold Amt;simp only at e;omega)))
     clear BAD GOOD ROW RUN RE
     go_wp2
     go_ret
     exact⟨by rw[zu OKF];rfl,zu BB⟩
    have GO:=zh ((zu GOOD) ⟨zu RK,by have e:=congrArg Prod.fst (zu RE);have y:=B3.yes;unfold Amt at y;simp only at e;omega,by have e:=congrArg Prod.snd (zu RE);have y:=B4.yes;unfold Amt at y;simp only at e;omega⟩)
    have y3:=B3.yes.2
    have y4:=B4.yes.2
    have HS2:=zh (show 0<k+1→(x3,x4)=run ps (k+1-1) from fun _=>by rw[show k+1-1=k by omega,zu RQ];exact(zu RE).symm)
    have st:=store5 (zu O9) x0 x1 x2 x3 x4
    have r0:w4.frozen? ⟨w.heap.size,0,none⟩=false:=(zu O9).free 0
    have r1:w4.frozen? ⟨w.heap.size,1,none⟩=false:=(zu O9).free 1
    have r2:w4.frozen? ⟨w.heap.size,2,none⟩=false:=(zu O9).free 2
    have r3:w4.frozen? ⟨w.heap.size,3,none⟩=false:=(zu O9).free 3
    have r4:w4.frozen? ⟨w.heap.size,4,none⟩=false:=(zu O9).free 4
    have SO:=zh st.1
    have SB:=zh ((zu BB).grown st.2 (zu BB).size (fun j hj=>by cases hj;exact Nat.le_refl _))
    clear BAD GOOD ROW RUN HB st RE RQ BB
    go_wp2
    go_roundw
    case rel=>exact⟨k+1,x3,x4,(x0,x1,x2,x3,x4),by omega,by go_num,rfl,rfl,by omega,by omega,by omega,by omega,AN,zu SB,zu SO,GO,HS2⟩
    case measure=>simp[intOf];omega
  ·obtain rfl:k=n:=by omega
   obtain rfl:ok=true:=hok.of ((right_iff ps (by omega)).2 (by rw[hl];exact zu HG))
   have HB:=zh hb
   clear hb hok ho
   go_wp2
   go_ret
   exact⟨rfl,zu HB⟩
end IOk5
namespace ILists
open BMem Bks IRead IHave ITrade
open Lots (Says says_of NoOk)
theorem boxed(w:World)(x:Bx)(e:TypeId):Cl (w.alloc (.cells #[.slice (some ⟨x.ga,0,none⟩) x.b.ac.length x.ca,.slice (some ⟨x.gi,0,none⟩) x.b.ic.length x.ci,.slice (some ⟨x.gb,0,none⟩) x.b.bs.length x.cb,.slice (some ⟨x.gl,0,none⟩) x.b.ls.length x.cl,.slice (some ⟨x.gt,0,none⟩) x.b.ts.length x.ct,.int .i64 x.b.lot] e)) w.heap.size x:=⟨by simp,by simp,by simp,by simp,by simp,by simp⟩
theorem iLists(w:World)(x:Bx)(b:Bool)(h:Rd w x)(hb:Says b (Lists x.b)):
  Calls Tryz.prog 114 #[.agg #[.slice (some ⟨x.ga,0,none⟩) x.b.ac.length x.ca,.slice (some ⟨x.gi,0,none⟩) x.b.ic.length x.ci,.slice (some ⟨x.gb,0,none⟩) x.b.bs.length x.cb,.slice (some ⟨x.gl,0,none⟩) x.b.ls.length x.cl,.slice (some ⟨x.gt,0,none⟩) x.b.ts.length x.ct,.int .i64 x.b.lot]] w fun e w'=>e= .returned (.bool b)∧Below w.heap.size w w':=by
 obtain⟨b0,h0⟩:=Chart.says_of 20 4 x.b.ac
 obtain⟨b1,h1⟩:=Chart.says_of 8 2 x.b.ic
 obtain⟨b2,h2⟩:=Bals.says_of (Bals.Right x.b.bs)
 obtain⟨b3,h3⟩:=says_of (Lots.Right x.b.ls)
 obtain⟨b4,h4⟩:=says_of (TRight x.b.ts)
 have H0:=zh h0
 have H1:=zh h1
 have H2:=zh h2
 have H3:=zh h3
 have H4:=zh h4
 have T:=zh hb
 clear h0 h1 h2 h3 h4 hb
 have R0:=zh (h.alloc (.cells #[.slice (some ⟨x.ga,0,none⟩) x.b.ac.length x.ca,.slice (some ⟨x.gi,0,none⟩) x.b.ic.length x.ci,.slice (some ⟨x.gb,0,none⟩) x.b.bs.length x.cb,.slice (some ⟨x.gl,0,none⟩) x.b.ls.length x.cl,.slice (some ⟨x.gt,0,none⟩) x.b.ts.length x.ct,.int .i64 x.b.lot] 36))
 have C0:=zh (boxed w x 36)
 have B0:=zh ((Below.refl w.heap.size w).alloc (Nat.le_refl _) (.cells #[.slice (some ⟨x.ga,0,none⟩) x.b.ac.length x.ca,.slice (some ⟨x.gi,0,none⟩) x.b.ic.length x.ci,.slice (some ⟨x.gb,0,none⟩) x.b.bs.length x.cb,.slice (some ⟨x.gl,0,none⟩) x.b.ls.length x.cl,.slice (some ⟨x.gt,0,none⟩) x.b.ts.length x.ct,.int .i64 x.b.lot] 36))
 have s0:w.heap.size<(w.alloc (.cells #[.slice (some ⟨x.ga,0,none⟩) x.b.ac.length x.ca,.slice (some ⟨x.gi,0,none⟩) x.b.ic.length x.ci,.slice (some ⟨x.gb,0,none⟩) x.b.bs.length x.cb,.slice (some ⟨x.gl,0,none⟩) x.b.ls.length x.cl,.slice (some ⟨x.gt,0,none⟩) x.b.ts.length x.ct,.int .i64 x.b.lot] 36)).heap.size:=by simp
 have na:=h.na
 have ni:=h.ni
 have nb:=h.nb
 have nl:=h.nl
 have nt:=h.nt
 clear h
 go_enter Tryz.func114,Tryz.ntmps114
 go_wp2_with fail
 refine(AccountIKind.iOks _ x.ga _ x.ca x.b.ac b0 rfl na (zu R0).la (zu R0).ra (zu H0)).mono ?_
 rintro e w1 ⟨rfl,bb⟩
 have R1:=zh ((zu R0).below bb)
 have C1:=zh ((zu C0).below bb s0)
 have B1:=zh ((zu B0).trans (bb.mono (Nat.le_of_lt s0)))
 have s1:w.heap.size<w1.heap.size:=Nat.lt_of_lt_of_le s0 bb.size
 have c1:=(zu C1).c1
 clear bb R0 C0 B0 s0
 cases b0
 ·have F:=zh ((zu T).not (fun hh=>(zu H0).no hh.1))
  clear T
  go_wp2
  go_ret
  exact⟨by rw[zu F];rfl,zu B1⟩
 go_wp2_with fail
 refine(InstrIKind.iOks _ x.gi _ x.ci x.b.ic b1 rfl ni (zu R1).li (zu R1).ri (zu H1)).mono ?_
 rintro e w2 ⟨rfl,bb⟩
 have R2:=zh ((zu R1).below bb)
 have C2:=zh ((zu C1).below bb s1)
 have B2:=zh ((zu B1).trans (bb.mono (Nat.le_of_lt s1)))
 have s2:w.heap.size<w2.heap.size:=Nat.lt_of_lt_of_le s1 bb.size
 have c2:=(zu C2).c2
 clear bb R1 C1 B1 s1
 cases b1
 ·have F:=zh ((zu T).not (fun hh=>(zu H1).no hh.2.1))
  clear T
  go_wp2
  go_ret
  exact⟨by rw[zu F];rfl,zu B2⟩
 go_wp2_with fail
 refine(IOk3.iOk _ x.gb _ x.cb x.b.bs b2 rfl nb (zu R2).lb (zu R2).rb (zu H2)).mono ?_
 rintro e w3 ⟨rfl,bb⟩
 have R3:=zh ((zu R2).below bb)
 have C3:=zh ((zu C2).below bb s2)
 have B3:=zh ((zu B2).trans (bb.mono (Nat.le_of_lt s2)))
 have s3:w.heap.size<w3.heap.size:=Nat.lt_of_lt_of_le s2 bb.size
 have c3:=(zu C3).c3
 clear bb R2 C2 B2 s2
 cases b2
 ·have F:=zh ((zu T).not (fun hh=>(zu H2).no hh.2.2.1))
  clear T
  go_wp2
  go_ret
  exact⟨by rw[zu F];rfl,zu B3⟩
 go_wp2_with fail
 refine(IOk5.iOk _ x.gl _ x.cl x.b.ls b3 rfl nl (zu R3).ll (zu R3).rl (zu H3)).mono ?_
 rintro e w4 ⟨rfl,bb⟩
 have R4:=zh ((zu R3).below bb)
 have C4:=zh ((zu C3).below bb s3)
 have B4:=zh ((zu B3).trans (bb.mono (Nat.le_of_lt s3)))
 have s4:w.heap.size<w4.heap.size:=Nat.lt_of_lt_of_le s3 bb.size
 have c4:=(zu C4).c4
 clear bb R3 C3 B3 s3
 cases b3
 ·have F:=zh ((zu T).not (fun hh=>(zu H3).no hh.2.2.2.1))
  clear T
  go_wp2
  go_ret
  exact⟨by rw[zu F];rfl,zu B4⟩
 go_wp2_with fail
 refine(ITrade.iOk _ x.gt _ x.ct x.b.ts b4 rfl nt (zu R4).lt (zu R4).rt (zu H4)).mono ?_
 rintro e w5 ⟨rfl,bb⟩
 have R5:=zh ((zu R4).below bb)
 have C5:=zh ((zu C4).below bb s4)
 have B5:=zh ((zu B4).trans (bb.mono (Nat.le_of_lt s4)))
 have s5:w.heap.size<w5.heap.size:=Nat.lt_of_lt_of_le s4 bb.size
 have c5:=(zu C5).c5
 clear bb R4 C4 B4 s4
 cases b4
 ·have F:=zh ((zu T).not (fun hh=>(zu H4).no hh.2.2.2.2.1))
  clear T
  go_wp2
  go_ret
  exact⟨by rw[zu F];rfl,zu B5⟩
 by_cases d1:0≤x.b.lot
 ·have hd:decide (x.b.lot≤1000000000)=b:=by
   by_cases d2:x.b.lot≤1000000000
   ·rw[decide_eq_true d2]
    exact((zu T).of ⟨(zu H0).yes,(zu H1).yes,(zu H2).yes,(zu H3).yes,(zu H4).yes,d1,d2⟩).symm
   ·rw[decide_eq_false d2]
    exact((zu T).not (fun hh=>d2 hh.2.2.2.2.2.2)).symm
  clear T
  go_wp2
  go_ret
  exact⟨rfl,zu B5⟩
 ·have F:=zh ((zu T).not (fun hh=>d1 hh.2.2.2.2.2.1))
  have hd:decide (0≤x.b.lot)=false:=decide_eq_false d1
  clear T d1
  go_wp2
  go_ret
  exact⟨by rw[zu F];rfl,zu B5⟩
end ILists
namespace Tab
open Bals Triples
open Go.Maps (Keyed)
theorem laidOut:laidOutB Tryz.prog=true:=by kernel_rfl
theorem row:(177:TypeId)<Tryz.prog.types.size:=of_decide_eq_true (by kernel_rfl)
theorem cells:Tryz.prog.cellsOf 177=2:=by kernel_rfl
theorem wide:(match Tryz.prog.underlying 177 with|some (.array _ _)|some (.struct _)=>true|_=>false)=true:=by rw[Tryz.underlying177]
theorem deep:Tryz.prog.keyTypeAt (Tryz.prog.types.size+1) 177=true:=by kernel_rfl
theorem law:Keyed Tryz.prog 177:=Keyed.of_law (deep_law_laid laidOut (m:=2) (by omega) row (by kernel_rfl) wide)
theorem lawI:Keyed Tryz.prog 3:=Maps.int_keyed Tryz.underlying3
theorem formed{c0 c1:Value}:(Value.agg #[c0,c1]).formed Tryz.prog 177=true:=by simp[Value.formed,Tryz.underlying177,cells]
theorem zero(w:World):(zeroValue 3).run Tryz.prog w= .ok (.int .i64 0) w:=by kernel_rfl
def Wf(a i:Int):Prop:=(Lit.int .i64 a).wf=true∧(Lit.int .i64 i).wf=true
theorem wf_no{a i:Int}(ha:NoOk a)(hi:NoOk i):Wf a i:=by
 unfold NoOk at ha hi
 exact⟨WalkArith.wf_i64 (by omega),WalkArith.wf_i64 (by omega)⟩
theorem wf_amt{x:Int}(h:Amt x):(Lit.int .i64 x).wf=true:=by
 unfold Amt at h
 exact WalkArith.wf_i64 (by omega)
def kl(a i:Int):Lit:= .string (keyBytes [.int .i64 a,.int .i64 i])
theorem lits(a i:Int)(h:Wf a i):Tryz.prog.keyLits (Tryz.prog.types.size+1) 177 [.int .i64 a,.int .i64 i]=some [.int .i64 a,.int .i64 i]:=by
 obtain⟨m,hm⟩:∃m,Tryz.prog.types.size=m+1:=Nat.exists_eq_succ_of_ne_zero (Nat.ne_of_gt (Nat.lt_of_le_of_lt (Nat.zero_le _) row))
 rw[hm]
 have c3:Tryz.prog.cellsOf 3=1:=by kernel_rfl
 simp[Program.keyLits,Tryz.underlying177,cells,c3,Tryz.underlying3,h.1,h.2]
theorem key_of{a i:Int}(h:Wf a i):keyOf Tryz.prog 177 (.agg #[.int .i64 a,.int .i64 i])=some (kl a i):=by
 have l:=lits a i h
 unfold keyOf
 rw[Tryz.underlying177]
 have kt:Tryz.prog.keyType 177=true:=deep
 simp only[kt,formed,Bool.and_self,if_true]
 show Option.map _ (Tryz.prog.keyLits (Tryz.prog.types.size+1) 177 [.int .i64 a,.int .i64 i])=_
 rw[l]
 rfl
theorem key_inv{v:Value}{l:Lit}(h:keyOf Tryz.prog 177 v=some l):∃x:Int×Int,v= .agg #[.int .i64 x.1,.int .i64 x.2]∧Wf x.1 x.2∧l=kl x.1 x.2:=by
 obtain⟨xs,L,rfl,h1,rfl⟩:=keyOf_top wide h
 obtain⟨m,hm⟩:∃m,Tryz.prog.types.size=m+1:=Nat.exists_eq_succ_of_ne_zero (Nat.ne_of_gt (Nat.lt_of_le_of_lt (Nat.zero_le _) row))
 rw[hm] at h1
 have c3:Tryz.prog.cellsOf 3=1:=by kernel_rfl
 obtain⟨xs⟩:=xs
 match xs,h1 with
 |[],h1=>simp[Program.keyLits,Tryz.underlying177,cells] at h1
 |[_],h1=>simp[Program.keyLits,Tryz.underlying177,cells] at h1
 |_::_::_::_,h1=>simp[Program.keyLits,Tryz.underlying177,cells] at h1
 |[v0,v1],h1=>
  cases v0<;>cases v1<;>simp[Program.keyLits,Tryz.underlying177,cells,c3,Tryz.underlying3] at h1
  rename_i q0 a q1 i
  by_cases c0:q0= .i64∧(Lit.int .i64 a).wf=true
  ·by_cases c1:q1= .i64∧(Lit.int .i64 i).wf=true
   ·obtain⟨rfl,w0⟩:=c0
    obtain⟨rfl,w1⟩:=c1
    simp[w0,w1] at h1
    subst h1
    exact⟨(a,i),rfl,⟨w0,w1⟩,rfl⟩
   ·simp[c0,c1] at h1
  ·simp[c0] at h1
theorem kl_inj{a i b j:Int}(h:Wf a i)(k:Wf b j)(e:kl a i=kl b j):a=b∧i=j:=by
 have:=law.inj (key_of h) (e▸key_of k)
 simpa using this
theorem kl_key{a i:Int}(h:Wf a i):WideAt.IsKeyLit (kl a i):=law.key (key_of h)
abbrev D0:Type:=DataW Unit
def Tells(D:D0)(f:Int→Int→Int):Prop:=(∀a i,Wf a i→D.atKey (kl a i) (.lit (.int .i64 0))= .lit (.int .i64 (f a i)))∧∀a i,f a i≠0→Wf a i
def Tab(w:World)(B n:Nat)(f:Int→Int→Int):Prop:=∃D:D0,w.ownsMap Tryz.prog 177 (plainElem Tryz.prog 3) B n D∧Tells D f
theorem tab_made(w:World):Tab (w.alloc (.map #[] 0)) w.heap.size 0 (fun _ _=>0):=
 ⟨.map [],World.ownsMap_made _ _ _ _,fun a i h=>rfl,fun a i h=>absurd rfl h⟩
theorem Tab.lt{w:World}{B n:Nat}{f:Int→Int→Int}(h:Tab w B n f):B<w.heap.size:=by
 obtain⟨D,h1,_⟩:=h
 exact h1.lt
theorem Tab.kept{w w':World}{B n:Nat}{f:Int→Int→Int}{row:Option Nat}(h:Tab w B n f)(hg:w.grownBy w' row)(hne:some B≠row):Tab w' B n f:=by
 obtain⟨D,h1,h2⟩:=h
 exact⟨D,h1.kept hg hne,h2⟩
theorem below_grown{b:Nat}{w w':World}(h:Below b w w')(hb:b=w.heap.size):w.grownBy w' none:=by
 subst hb
 exact⟨h.os,h.tape,h.output,h.size,fun k hk _=>h.block k hk⟩
theorem Tab.below{w w':World}{B n:Nat}{f:Int→Int→Int}(h:Tab w B n f)(k:Below w.heap.size w w'):Tab w' B n f:=h.kept (below_grown k rfl) (by simp)
theorem Tab.congr{w:World}{B n:Nat}{f g:Int→Int→Int}(h:Tab w B n f)(e:∀a i,f a i=g a i):Tab w B n g:=by
 have:f=g:=funext fun a=>funext fun i=>e a i
 exact this▸h
theorem wp_look(w:World){ops:Array Oper}{rest:List Oper}{o:Oper}{s:Act}{Q:Exit→Act→World→Prop}
  (hg:o.guard=none)(m x:Operand)(t:TypeId)(hop:o.op=Op.lookup t m x false)(ht:Tryz.prog.underlying t=some (.map 177 3))(B n:Nat)(f:Int→Int→Int)(hm:s.eval m= .map (some B))(hown:Tab w B n f)
  (a i:Int)(hx:s.eval x= .agg #[.int .i64 a,.int .i64 i])(hw:Wf a i)
  (hK:wpList Tryz.prog ops Q rest (s.put o.dst (.int .i64 (f a i))) w):wpList Tryz.prog ops Q (o::rest) s w:=by
 obtain⟨D,h1,h2,h3⟩:=hown
 refine wpList_lookup_own_int w hg m x t hop 177 3 .i64 law ht Tryz.underlying3 (zero _) B n D hm h1 _ (kl a i) hx (key_of hw) ?_
 intro c hat hwc
 rw[h2 a i hw] at hat
 have:f a i=c:=by simpa using hat
 rw[←this]
 exact hK
theorem tells_put{D:D0}{f:Int→Int→Int}(h:Tells D f)(hD:Maps.IsMap D){a i v:Int}(hw:Wf a i):Tells (D.put (kl a i) (.lit (.int .i64 v))) (upd f a i v):=by
 refine⟨fun b j hb=>?_,fun b j hb=>?_⟩
 ·by_cases e:b=a∧j=i
  ·obtain⟨rfl,rfl⟩:=e
   rw[upd_same,Maps.atKey_put_same hD (kl_key hw)]
  ·rw[upd_other _ _ _ _ _ _ e,Maps.atKey_put_other (fun q=>e (kl_inj hb hw q)),h.1 b j hb]
 ·by_cases e:b=a∧j=i
  ·obtain⟨rfl,rfl⟩:=e
   exact hw
  ·rw[upd_other _ _ _ _ _ _ e] at hb
   exact h.2 b j hb
theorem isMap_of{w:World}{k:TypeId}{R:Value→Option (D0×List MemPlace)}{B n:Nat}{D:D0}(h:w.ownsMap Tryz.prog k R B n D):Maps.IsMap D:=by
 obtain⟨es,clock,_,_,_,rfl⟩:=h
 exact⟨_,rfl⟩
theorem wp_put(w:World){ops:Array Oper}{rest:List Oper}{o:Oper}{s:Act}{Q:Exit→Act→World→Prop}
  (hg:o.guard=none)(m x y:Operand)(t:TypeId)(hop:o.op=Op.mapUpdate t m x y)(ht:Tryz.prog.underlying t=some (.map 177 3))(B n:Nat)(f:Int→Int→Int)(hm:s.eval m= .map (some B))(hown:Tab w B n f)(hn:n≤1048576)
  (a i v:Int)(hx:s.eval x= .agg #[.int .i64 a,.int .i64 i])(hy:s.eval y= .int .i64 v)(hw:Wf a i)(hv:(Lit.int .i64 v).wf=true)
  (hK:∀w',Tab w' B (n+1) (upd f a i v)→w.grownBy w' (some B)→wpList Tryz.prog ops Q rest (s.put o.dst undef) w'):wpList Tryz.prog ops Q (o::rest) s w:=by
 obtain⟨D,h1,h2⟩:=hown
 refine wpList_mapUpdate_own w hg m x y t hop 177 3 law ht _ B n D hm h1 (by unfold maxLen;omega) _ _ (kl a i) hx hy (key_of hw) (.lit (.int .i64 v)) [] (plainElem_int Tryz.underlying3 hv) ?_
 intro w' h3 h4
 exact hK w' ⟨_,h3,tells_put h2 (isMap_of h1) hw⟩ h4
def RTab(w:World)(B r n:Nat)(f:Int→Int→Int)(left:Int→Int→Bool)(cnt:Nat):Prop:=
 ∃(D:D0) (lf:Lit→Bool),w.ranges Tryz.prog 177 (plainElem Tryz.prog 3) B r n D lf cnt∧Tells D f∧∀a i,Wf a i→left a i=lf (kl a i)
theorem RTab.lt{w:World}{B r n:Nat}{f:Int→Int→Int}{left:Int→Int→Bool}{cnt:Nat}(h:RTab w B r n f left cnt):B<w.heap.size∧r<w.heap.size∧r≠B∧w.rangeLeft B r=cnt:=by
 obtain⟨D,lf,h1,_⟩:=h
 exact⟨h1.owns.lt,h1.lt,h1.ne,h1.left_eq⟩
theorem RTab.kept{w w':World}{B r n:Nat}{f:Int→Int→Int}{left:Int→Int→Bool}{cnt:Nat}{row:Option Nat}(h:RTab w B r n f left cnt)(hg:w.grownBy w' row)(hb:some B≠row)(hr:some r≠row):RTab w' B r n f left cnt:=by
 obtain⟨D,lf,h1,h2⟩:=h
 exact⟨D,lf,h1.kept hg hb hr,h2⟩
theorem wp_range(w:World){ops:Array Oper}{rest:List Oper}{o:Oper}{s:Act}{Q:Exit→Act→World→Prop}
  (hg:o.guard=none)(m:Operand)(t:TypeId)(hop:o.op=Op.range t m)(ht:Tryz.prog.underlying t=some (.map 177 3))(B n:Nat)(f:Int→Int→Int)(hm:s.eval m= .map (some B))(hown:Tab w B n f)
  (hK:∀w' left cnt,RTab w' B w.heap.size n f left cnt→cnt≤n→(∀a i,f a i≠0→left a i=true)→w.grownBy w' none→w'.heap.size=w.heap.size+1→wpList Tryz.prog ops Q rest (s.put o.dst (.pointer (some ⟨w.heap.size,0,none⟩))) w'):wpList Tryz.prog ops Q (o::rest) s w:=by
 obtain⟨D,h1,h2⟩:=hown
 refine wpList_range_own w hg m t hop 177 3 law ht _ B n D hm h1 ?_
 intro w' h3 h4 h5
 refine hK w' (fun a i=>Maps.has D (kl a i)) (Maps.size D) ⟨D,Maps.has D,h3,h2,fun a i _=>rfl⟩ ?_ ?_ h4 h5
 ·obtain⟨es,clock,_,_,hs,rfl⟩:=h1
  rw[Maps.size_eq,length_sorted]
  simpa using hs
 ·intro a i hf
  refine Classical.byContradiction fun nh=>?_
  have nh:Maps.has D (kl a i)=false:=by simpa using nh
  have e:=h2.1 a i (h2.2 a i hf)
  rw[Maps.atKey_of_not_has nh] at e
  have:(0:Int)=f a i:=by simpa using e
  exact hf this.symm
theorem wp_next(w:World){ops:Array Oper}{rest:List Oper}{o:Oper}{s:Act}{Q:Exit→Act→World→Prop}
  (hg:o.guard=none)(it:Operand)(hop:o.op=Op.next it false)(B r n:Nat)(f:Int→Int→Int)(left:Int→Int→Bool)(cnt:Nat)(hit:s.eval it= .pointer (some ⟨r,0,none⟩))(h:RTab w B r n f left cnt)
  (hDone:cnt=0→(∀a i,Wf a i→left a i=false)→wpList Tryz.prog ops Q rest (s.put o.dst (.tuple #[.bool false])) w)
  (hMore:∀(a i:Int) (w':World) (left':Int→Int→Bool) (cnt':Nat),Wf a i→(Lit.int .i64 (f a i)).wf=true→left a i=true→(∀b j,Wf b j→left' b j=(left b j&& !decide (b=a∧j=i)))→RTab w' B r n f left' cnt'→cnt'<cnt→w.grownBy w' (some r)→w'.heap.size=w.heap.size→
   (Instr.entry (.pointer (some ⟨r,0,none⟩))).run Tryz.prog w'= .ok (.tuple #[.agg #[.int .i64 a,.int .i64 i],.int .i64 (f a i)]) w'→wpList Tryz.prog ops Q rest (s.put o.dst (.tuple #[.bool true,.agg #[.int .i64 a,.int .i64 i],.int .i64 (f a i)])) w'):
  wpList Tryz.prog ops Q (o::rest) s w:=by
 obtain⟨D,lf,h1,h2,h3⟩:=h
 refine wpList_next_ranges (α:=Int×Int) (β:=Int) w hg it hop 177 law (plainElem Tryz.prog 3) (fun x=> .agg #[.int .i64 x.1,.int .i64 x.2]) (Value.int .i64) (fun key l hk=>by obtain⟨x,e,_⟩:=key_inv hk;exact⟨x,e⟩) (fun v y hv=>by obtain⟨c,rfl,_⟩:=plainElem_int_inv Tryz.underlying3 hv;exact⟨c,rfl⟩) B r n D lf cnt hit h1 ?_ ?_
 ·intro h4 h5
  exact hDone h4 (fun a i hw=>by rw[h3 a i hw,h5])
 ·intro x c l y w' cnt' hkey hlk hv hat hrg hlt hgr hsz hen
  obtain⟨⟨a,i⟩,e,hw,rfl⟩:=key_inv hkey
  obtain⟨c',ec,rfl,hwc⟩:=plainElem_int_inv Tryz.underlying3 hv
  cases ec
  obtain⟨x1,x2⟩:=x
  obtain⟨rfl,rfl⟩:x1=a∧x2=i:=by simpa using e
  have ef:f x1 x2=c:=by
   have:=h2.1 x1 x2 hw
   rw[hat] at this
   simpa using this.symm
  subst ef
  refine hMore x1 x2 w' (fun b j=>lf (kl b j)&& !(kl b j).sameKey (kl x1 x2)) cnt' hw hwc (by rw[h3 x1 x2 hw];exact hlk) (fun b j hb=>?_) ⟨D,_,hrg,h2,fun b j _=>rfl⟩ hlt hgr hsz hen
  rw[h3 b j hb]
  congr 2
  by_cases q:b=x1∧j=x2
  ·obtain⟨rfl,rfl⟩:=q
   rw[WideAt.sameKey_self (kl_key hb)]
   simp
  ·rw[Maps.sameKey_ne (fun e=>q (kl_inj hb hw e))]
   simp[q]
end Tab
namespace SOk3
open Bals Triples
theorem sIn(x lo hi:Int)(b:Bool)(w:World)(hb:Says b (lo≤x∧x≤hi)):
  Calls Tryz.prog 70 #[.int .i64 x,.int .i64 lo,.int .i64 hi] w fun e w'=>e= .returned (.bool b)∧w'=w:=by
 by_cases h1:lo≤x
 ·by_cases h2:x≤hi
  ·obtain rfl:b=true:=hb.of ⟨h1,h2⟩
   clear hb
   go_enter Tryz.func70,Tryz.ntmps70
   go_wp2
   go_ret
   exact⟨rfl,rfl⟩
  ·obtain rfl:b=false:=hb.not (fun r=>h2 r.2)
   clear hb
   go_enter Tryz.func70,Tryz.ntmps70
   go_wp2
   go_ret
   exact⟨rfl,rfl⟩
 ·obtain rfl:b=false:=hb.not (fun r=>h1 r.1)
  clear hb
  go_enter Tryz.func70,Tryz.ntmps70
  go_wp2
  go_ret
  exact⟨rfl,rfl⟩
theorem sNo(x:Int)(b:Bool)(w:World)(hb:Says b (NoOk x)):
  Calls Tryz.prog 29 #[.int .i64 x] w fun e w'=>e= .returned (.bool b)∧w'=w:=by
 go_enter Tryz.func29,Tryz.ntmps29
 go_wp2_with fail
 refine(sIn x 1 1000 b _ hb).mono ?_
 rintro e w' ⟨rfl,rfl⟩
 go_wp2
 go_ret
 exact⟨rfl,rfl⟩
theorem sAmt(x:Int)(b:Bool)(w:World)(hb:Says b (Amt x)):
  Calls Tryz.prog 67 #[.int .i64 x] w fun e w'=>e= .returned (.bool b)∧w'=w:=by
 go_enter Tryz.func67,Tryz.ntmps67
 go_wp2_with fail
 refine(sIn x (-1000000000000000) 1000000000000000 b _ hb).mono ?_
 rintro e w' ⟨rfl,rfl⟩
 go_wp2
 go_ret
 exact⟨rfl,rfl⟩
theorem sBefore(a i c j:Int)(b:Bool)(w:World)(hb:Says b (a<c∨(a=c∧i<j))):
  Calls Tryz.prog 133 #[.int .i64 a,.int .i64 i,.int .i64 c,.int .i64 j] w fun e w'=>e= .returned (.bool b)∧w'=w:=by
 by_cases h1:a<c
 ·obtain rfl:b=true:=hb.of (.inl h1)
  clear hb
  go_enter Tryz.func133,Tryz.ntmps133
  go_wp2
  go_ret
  exact⟨rfl,rfl⟩
 ·by_cases h2:a=c
  ·subst h2
   by_cases h3:i<j
   ·obtain rfl:b=true:=hb.of (.inr ⟨rfl,h3⟩)
    clear hb
    go_enter Tryz.func133,Tryz.ntmps133
    go_wp2
    go_ret
    exact⟨rfl,rfl⟩
   ·obtain rfl:b=false:=hb.not (fun r=>by omega)
    clear hb
    go_enter Tryz.func133,Tryz.ntmps133
    go_wp2
    go_ret
    exact⟨rfl,rfl⟩
  ·obtain rfl:b=false:=hb.not (fun r=>by omega)
   clear hb
   go_enter Tryz.func133,Tryz.ntmps133
   go_wp2
   go_ret
   exact⟨rfl,rfl⟩
theorem one_more(w:World)(o:Obj):Below w.heap.size w (w.alloc o):=(Below.refl _ _).alloc (Nat.le_refl _) _
theorem sOk(w:World)(g n cap:Nat)(ps:List T3)(ok:Bool)(hl:ps.length=n)(h20:n≤1048576)(hg:g<w.heap.size)(h:At3 w g ps)(hok:Says ok (Right ps)):
  Calls Tryz.prog 85 #[.slice (some ⟨g,0,none⟩) n cap] w fun e w'=>e= .returned (.bool ok)∧Below w.heap.size w w':=by
 by_cases nn:(160:Int)<(n:Int)
 ·obtain rfl:ok=false:=hok.not (fun r=>by have:=r.1;omega)
  clear hok h
  go_enter Tryz.func85,Tryz.ntmps85
  go_wp2
  go_ret
  exact⟨rfl,Below.refl _ _⟩
 have H:=zh h
 clear h
 go_enter Tryz.func85,Tryz.ntmps85
 go_wp2
 go_loopw [3,4] (fun i _ wr=>∃(k:Nat),k≤n∧i= .int .i64 k∧Below w.heap.size w wr∧Hid (∀i,i<k→RowOk ps i)) (fun i _ _=>n-(intOf i).toNat)
 case atStart=>exact⟨0,by omega,rfl,Below.refl _ _,zh (fun i hi=>absurd hi (by omega))⟩
 case round=>
  obtain⟨k,hk,rfl,hb,HG⟩:=hrel
  by_cases t:k<n
  ·have hA:=(zu H).below hb hg
   obtain⟨e1,e2,e3⟩:=hA k (by omega)
   have e4:0<k→wr.cell? ⟨g,(k-1)*3,none⟩=some (.int .i64 (el3 ps (k-1)).1):=fun k0=>(hA (k-1) (by omega)).1
   have e5:0<k→wr.cell? ⟨g,(k-1)*3+1,none⟩=some (.int .i64 (el3 ps (k-1)).2.1):=fun k0=>(hA (k-1) (by omega)).2.1
   have gs:g<wr.heap.size:=Nat.lt_of_lt_of_le hg hb.size
   have gne:g≠wr.heap.size:=by omega
   clear hA
   have HB:=zh hb
   clear hb
   obtain⟨b1,B1⟩:=says_of (NoOk (el3 ps k).1)
   obtain⟨b2,B2⟩:=says_of (NoOk (el3 ps k).2.1)
   obtain⟨b3,B3⟩:=says_of (Amt (el3 ps k).2.2)
   obtain⟨b4,B4⟩:=says_of ((el3 ps (k-1)).1<(el3 ps k).1∨((el3 ps (k-1)).1=(el3 ps k).1∧(el3 ps (k-1)).2.1<(el3 ps k).2.1))
   have ROW:=zh (show RowOk ps k↔(b1=true)∧(b2=true)∧(b3=true)∧(el3 ps k).2.2≠0∧(0<k→b4=true) from by unfold Says at B1 B2 B3 B4;rw[B1,B2,B3,B4];exact Iff.rfl)
   have BAD:=zh (show ¬RowOk ps k→ok=false from fun hr=>hok.not (fun r=>hr (r.2 k (by omega))))
   have GOOD:=zh (show RowOk ps k→∀i,i<k+1→RowOk ps i from fun hr i hi=>by
    by_cases e:i=k
    ·subst e;exact hr
    ·exact(zu HG) i (by omega))
   generalize (el3 ps k).1=x at *
   generalize (el3 ps k).2.1=y at *
   generalize (el3 ps k).2.2=z at *
   generalize (el3 ps (k-1)).1=u at *
   generalize (el3 ps (k-1)).2.1=v at *
   have NB:=zh (fun m=>next (zu HB) (below_drewN (one_more wr (.cells #[.int .i64 x,.int .i64 y,.int .i64 z] 119)) m))
   cases b1
   ·clear e4 e5 B4
    have OKF:=zh ((zu BAD) (fun hr=>by have:=(zu ROW).1 hr;cases this.1))
    clear BAD GOOD ROW
    go_wp2_with fail
    go_quiet (first|(go_at_call 29;refine Calls.quiet_of_same (sNo _ false _ B1)))
    go_wp2
    go_ret
    exact⟨by rw[zu OKF];rfl,(zu NB) _⟩
   ·cases b2
    ·clear e4 e5 B4
     have OKF:=zh ((zu BAD) (fun hr=>by have:=(zu ROW).1 hr;cases this.2.1))
     clear BAD GOOD ROW
     go_wp2_with fail
     go_quiet (first|(go_at_call 29;refine Calls.quiet_of_same (sNo _ true _ B1))|(go_at_call 29;refine Calls.quiet_of_same (sNo _ false _ B2)))
     go_wp2
     go_ret
     exact⟨by rw[zu OKF];rfl,(zu NB) _⟩
    ·cases b3
     ·clear e4 e5 B4
      have OKF:=zh ((zu BAD) (fun hr=>by have:=(zu ROW).1 hr;cases this.2.2.1))
      clear BAD GOOD ROW
      go_wp2_with fail
      go_quiet (first|(go_at_call 29;refine Calls.quiet_of_same (sNo _ true _ B1))|(go_at_call 29;refine Calls.quiet_of_same (sNo _ true _ B2))|(go_at_call 67;refine Calls.quiet_of_same (sAmt _ false _ B3)))
      go_wp2
      go_ret
      exact⟨by rw[zu OKF];rfl,(zu NB) _⟩
     ·by_cases z0:z=0
      ·subst z0
       clear e4 e5 B4
       have OKF:=zh ((zu BAD) (fun hr=>by have:=(zu ROW).1 hr;exact this.2.2.2.1 rfl))
       clear BAD GOOD ROW
       go_wp2_with fail
       go_quiet (first|(go_at_call 29;refine Calls.quiet_of_same (sNo _ true _ B1))|(go_at_call 29;refine Calls.quiet_of_same (sNo _ true _ B2))|(go_at_call 67;refine Calls.quiet_of_same (sAmt _ true _ B3)))
       go_wp2
       go_ret
       exact⟨by rw[zu OKF];rfl,(zu NB) _⟩
      ·have zb:(z==0)=false:=by simpa using z0
       by_cases k0:0<k
       ·have e4:=e4 k0
        have e5:=e5 k0
        have k1:(0:Int)<(k:Int):=by omega
        have k2:(0:Int)≤(k:Int) -1:=by omega
        have k3:((k:Int) -1).toNat=k-1:=by omega
        have k4:IntKind.i64.wrap ((k:Int) -1)=(k:Int) -1:=by rw[IntKind.wrap_i64];omega
        have k5:(k:Int) -1<(n:Int):=by omega
        cases b4
        ·have OKF:=zh ((zu BAD) (fun hr=>by have:=(zu ROW).1 hr;cases this.2.2.2.2 k0))
         clear BAD GOOD ROW
         go_wp2_with fail
         go_quiet (first|(go_at_call 29;refine Calls.quiet_of_same (sNo _ true _ B1))|(go_at_call 29;refine Calls.quiet_of_same (sNo _ true _ B2))|(go_at_call 67;refine Calls.quiet_of_same (sAmt _ true _ B3))|(go_at_call 133;refine Calls.quiet_of_same (sBefore _ _ _ _ false _ B4)))
         go_wp2
         go_ret
         exact⟨by rw[zu OKF];rfl,(zu NB) _⟩
        ·have GO:=zh ((zu GOOD) ((zu ROW).2 ⟨rfl,rfl,rfl,z0,fun _=>rfl⟩))
         clear BAD GOOD ROW
         go_wp2_with fail
         go_quiet (first|(go_at_call 29;refine Calls.quiet_of_same (sNo _ true _ B1))|(go_at_call 29;refine Calls.quiet_of_same (sNo _ true _ B2))|(go_at_call 67;refine Calls.quiet_of_same (sAmt _ true _ B3))|(go_at_call 133;refine Calls.quiet_of_same (sBefore _ _ _ _ true _ B4)))
         go_wp2
         go_roundw
         case rel=>exact⟨k+1,by omega,by go_num,(zu NB) _,GO⟩
         case measure=>simp[intOf];omega
       ·obtain rfl:k=0:=by omega
        clear e4 e5 B4
        have GO:=zh ((zu GOOD) ((zu ROW).2 ⟨rfl,rfl,rfl,z0,fun h0=>absurd h0 k0⟩))
        clear BAD GOOD ROW
        go_wp2_with fail
        go_quiet (first|(go_at_call 29;refine Calls.quiet_of_same (sNo _ true _ B1))|(go_at_call 29;refine Calls.quiet_of_same (sNo _ true _ B2))|(go_at_call 67;refine Calls.quiet_of_same (sAmt _ true _ B3)))
        go_wp2
        go_roundw
        case rel=>exact⟨1,by omega,by go_num,(zu NB) _,GO⟩
        case measure=>simp[intOf];omega
  ·obtain rfl:k=n:=by omega
   obtain rfl:ok=true:=hok.of ⟨by omega,by rw[hl];exact zu HG⟩
   have HB:=zh hb
   clear hb hok
   go_wp2
   go_ret
   exact⟨rfl,zu HB⟩
end SOk3
namespace Look
open Bals Triples Cmp SOk3 IOk3 Tab
theorem drop_next{ps:List T3}{k:Nat}(h:k<ps.length):ps.drop k=el3 ps k::ps.drop (k+1):=by
 rw[List.drop_eq_getElem_cons h]
 simp[el3,List.getD,h]
theorem val_hit{ps:List T3}{k:Nat}{a i:Int}(h:k<ps.length)(e:(el3 ps k).1=a∧(el3 ps k).2.1=i):val (ps.drop k) a i=(el3 ps k).2.2:=by
 rw[drop_next h]
 unfold val
 rw[if_pos e]
theorem val_miss{ps:List T3}{k:Nat}{a i:Int}(h:k<ps.length)(e:¬((el3 ps k).1=a∧(el3 ps k).2.1=i)):val (ps.drop k) a i=val (ps.drop (k+1)) a i:=by
 rw[drop_next h,val,if_neg e]
theorem sOf(w:World)(g n cap:Nat)(ps:List T3)(a i:Int)(hl:ps.length=n)(h20:n≤1048576)(h:At3 w g ps):
  Calls Tryz.prog 66 #[.slice (some ⟨g,0,none⟩) n cap,.int .i64 a,.int .i64 i] w fun e w'=>e= .returned (.int .i64 (val ps a i))∧w'=w:=by
 go_enter Tryz.func66,Tryz.ntmps66
 go_wp2
 go_loop [7] (fun j=>∃(k:Nat),k≤n∧j= .int .i64 k∧Hid (val ps a i=val (ps.drop k) a i)) (fun j=>n-(intOf j).toNat)
 case atStart=>exact⟨0,by omega,rfl,zh rfl⟩
 case round=>
  obtain⟨k,hk,rfl,HV⟩:=hrel
  by_cases t:k<n
  ·obtain⟨e1,e2,e3⟩:=h k (by omega)
   have HIT:=zh (val_hit (ps:=ps) (k:=k) (a:=a) (i:=i) (by omega))
   have MISS:=zh (val_miss (ps:=ps) (k:=k) (a:=a) (i:=i) (by omega))
   clear h
   generalize (el3 ps k).1=x at *
   generalize (el3 ps k).2.1=y at *
   generalize (el3 ps k).2.2=z at *
   by_cases c1:x=a
   ·by_cases c2:y=i
    ·have V:=zh ((zu HV).trans ((zu HIT) ⟨c1,c2⟩))
     clear HIT MISS HV
     subst c1 c2
     go_wp2
     go_ret
     exact⟨by rw[zu V];rfl,rfl⟩
    ·have V:=zh ((zu HV).trans ((zu MISS) (fun r=>c2 r.2)))
     clear HIT MISS HV
     have c2b:(y==i)=false:=by simpa using c2
     subst c1
     go_wp2
     go_round
     case rel=>exact⟨k+1,by omega,by go_num,V⟩
     case measure=>simp[intOf];omega
   ·have V:=zh ((zu HV).trans ((zu MISS) (fun r=>c1 r.1)))
    clear HIT MISS HV
    have c1b:(x==a)=false:=by simpa using c1
    go_wp2
    go_round
    case rel=>exact⟨k+1,by omega,by go_num,V⟩
    case measure=>simp[intOf];omega
  ·obtain rfl:k=n:=by omega
   have V:=zh ((zu HV).trans (show val (ps.drop k) a i=0 by rw[List.drop_of_length_le (by omega)];rfl))
   clear HV h
   go_wp2
   go_ret
   exact⟨by rw[zu V];rfl,rfl⟩
theorem val_more(p:T3):∀(l:List T3),(∀q∈l,Bef q p)→∀a i,val (l++[p]) a i=upd (val l) p.1 p.2.1 p.2.2 a i
 |[],_,a,i=>by
  unfold upd
  simp only[List.nil_append,val]
  by_cases e:p.1=a∧p.2.1=i
  ·rw[if_pos e,if_pos ⟨e.1.symm,e.2.symm⟩]
  ·rw[if_neg e,if_neg (fun r=>e ⟨r.1.symm,r.2.symm⟩)]
 |q::r,h,a,i=>by
  have ih:=val_more p r (fun x hx=>h x (List.mem_cons_of_mem _ hx)) a i
  have b:=h q List.mem_cons_self
  unfold upd at ih⊢
  simp only[List.cons_append,val,ih]
  by_cases e:q.1=a∧q.2.1=i
  ·rw[if_pos e,if_pos e,if_neg (fun r=>by unfold Bef at b;omega)]
  ·rw[if_neg e,if_neg e]
theorem val_take{ps:List T3}(h:Right ps){k:Nat}(hk:k<ps.length):∀a i,val (ps.take (k+1)) a i=upd (val (ps.take k)) (el3 ps k).1 (el3 ps k).2.1 (el3 ps k).2.2 a i:=by
 rw[take_next hk]
 refine val_more _ _ (fun q hq=>?_)
 obtain⟨j,hj,rfl⟩:=mem_getD hq
 have hj':j<k:=by simp at hj;omega
 have:=h.asc k j hj' hk
 simpa[el3,List.getD,hj',show j<ps.length by omega] using this
theorem iTable(w:World)(g n cap:Nat)(ps:List T3)(hl:ps.length=n)(hg:g<w.heap.size)(h:At3 w g ps)(hr:Right ps):
  Calls Tryz.prog 146 #[.slice (some ⟨g,0,none⟩) n cap] w fun e w'=>e= .returned (.map (some w.heap.size))∧Tab w' w.heap.size n (val ps)∧Below w.heap.size w w':=by
 have h160:n≤160:=by have:=hr.1;omega
 have H:=zh h
 have HR:=zh hr
 clear h hr
 have hmm:= @run_makeMap Tryz.prog
 go_enter Tryz.func146,Tryz.ntmps146
 go_wp2
 go_loopw [5,9] (fun _ j wr=>∃(k:Nat),k≤n∧j= .int .i64 k∧Tab wr w.heap.size k (val (ps.take k))∧Below w.heap.size w wr) (fun _ j _=>n-(intOf j).toNat)
 case atStart=>exact⟨0,by omega,rfl,tab_made w,(Below.refl _ _).alloc (Nat.le_refl _) _⟩
 case round=>
  obtain⟨k,hk,rfl,ht,hb⟩:=hrel
  by_cases t:k<n
  ·obtain⟨e1,e2,e3⟩:=(zu H).below hb hg k (by omega)
   have VT:=zh (val_take (zu HR) (k:=k) (by omega))
   obtain⟨r1,r2,r3,r4,_⟩:=(zu HR).2 k (by omega)
   have WF:=wf_no r1 r2
   have WA:=wf_amt r3
   have bl:=ht.lt
   have HB:=zh hb
   have t1:=ht.kept (World.grownBy_alloc wr (.cells #[.int .i64 (el3 ps k).1,.int .i64 (el3 ps k).2.1,.int .i64 (el3 ps k).2.2] 119) none) (by simp)
   have HT:=zh t1
   clear hb ht r1 r2 r3 r4 t1
   generalize (el3 ps k).1=x at *
   generalize (el3 ps k).2.1=y at *
   generalize (el3 ps k).2.2=z at *
   go_wp2_with (first|(at_mapUpdate;refine wp_put _ rfl _ _ _ 172 rfl Tryz.underlying172 w.heap.size k _ rfl (zu HT) (by omega) x y z rfl rfl WF WA ?_;intro w1 t1 g1)|go_in)
   go_roundw
   case rel=>
    refine⟨k+1,by omega,by go_num,t1.congr (fun a i=>((zu VT) a i).symm),?_⟩
    exact((zu HB).alloc (zu HB).size _).grown g1 (by simp;have:=(zu HB).size;omega) (by simp)
   case measure=>simp[intOf];omega
  ·obtain rfl:k=n:=by omega
   rw[List.take_of_length_le (by omega)] at ht
   have HT:=zh ht
   have HB:=zh hb
   clear ht hb
   go_wp2
   go_ret
   exact⟨rfl,zu HT,zu HB⟩
theorem sTold(x:Int)(b c:Bool)(r:Int)(w:World)(h:(b=true∧Amt x∧r=x∧c=true)∨(¬(b=true∧Amt x)∧r=0∧c=false)):
  Calls Tryz.prog 167 #[.int .i64 x,.bool b] w fun e w'=>e= .returned (.tuple #[.int .i64 r,.bool c])∧w'=w:=by
 obtain⟨d,D⟩:=says_of (Amt x)
 cases b
 ·rcases h with⟨h1,_⟩|⟨_,rfl,rfl⟩
  ·cases h1
  ·go_enter Tryz.func167,Tryz.ntmps167
   go_wp2
   go_ret2
   exact⟨rfl,rfl⟩
 ·cases d
  ·rcases h with⟨_,h1,_⟩|⟨_,rfl,rfl⟩
   ·exact absurd h1 D.no
   ·go_enter Tryz.func167,Tryz.ntmps167
    go_wp2_with fail
    refine(sAmt x false _ D).mono ?_
    rintro e w1 ⟨rfl,rfl⟩
    go_wp2
    go_ret2
    exact⟨rfl,rfl⟩
  ·rcases h with⟨_,h1,rfl,rfl⟩|⟨h1,_⟩
   ·clear h1
    go_enter Tryz.func167,Tryz.ntmps167
    go_wp2_with fail
    refine(sAmt r true _ D).mono ?_
    rintro e w1 ⟨rfl,rfl⟩
    go_wp2
    go_ret2
    exact⟨rfl,rfl⟩
   ·exact absurd ⟨rfl,D.yes⟩ h1
theorem iOnly(x:Int)(c:Bool)(r:Int)(w:World)(h:(Amt x∧r=x∧c=true)∨(¬Amt x∧r=0∧c=false)):
  Calls Tryz.prog 159 #[.int .i64 x] w fun e w'=>e= .returned (.tuple #[.int .i64 r,.bool c])∧w'=w:=by
 obtain⟨d,D⟩:=says_of (Amt x)
 cases d
 ·rcases h with⟨h1,_⟩|⟨_,rfl,rfl⟩
  ·exact absurd h1 D.no
  ·go_enter Tryz.func159,Tryz.ntmps159
   go_wp2_with fail
   refine(iAmt x false _ D).mono ?_
   rintro e w1 ⟨rfl,rfl⟩
   go_wp2
   go_ret2
   exact⟨rfl,rfl⟩
 ·rcases h with⟨h1,rfl,rfl⟩|⟨h1,_⟩
  ·clear h1
   go_enter Tryz.func159,Tryz.ntmps159
   go_wp2_with fail
   refine(iAmt r true _ D).mono ?_
   rintro e w1 ⟨rfl,rfl⟩
   go_wp2
   go_ret2
   exact⟨rfl,rfl⟩
  ·exact absurd D.yes h1
theorem sum_near{ps:List T3}(i:Int)(hl:ps.length≤160)(h:∀j,j<ps.length→Amt (el3 ps j).2.2)(k:Nat)(hk:k≤ps.length): -200000000000000000≤sumI (ps.take k) i∧sumI (ps.take k) i≤200000000000000000:=by
 have:=sumI_bound i h k hk
 omega
theorem sSum(w:World)(g n cap:Nat)(ps:List T3)(i r:Int)(c:Bool)(hl:ps.length=n)(h20:n≤1048576)(hg:g<w.heap.size)(h:At3 w g ps)(hs:IsSum ps i r c):
  Calls Tryz.prog 136 #[.slice (some ⟨g,0,none⟩) n cap,.int .i64 i] w fun e w'=>e= .returned (.tuple #[.int .i64 r,.bool c])∧Below w.heap.size w w':=by
 obtain⟨ok,OK⟩:=says_of (Right ps)
 have H:=zh h
 have HS:=zh hs
 clear h hs
 go_enter Tryz.func136,Tryz.ntmps136
 go_wp2
 go_loopw [6,7] (fun s j wr=>∃(k:Nat),k≤n∧j= .int .i64 k∧s= .int .i64 (sumI (ps.take k) i)∧Below w.heap.size w wr∧(ok=false→k=0)) (fun _ j _=>n-(intOf j).toNat)
 case atStart=>exact⟨0,by omega,rfl,rfl,Below.refl _ _,fun _=>rfl⟩
 case round=>
  obtain⟨k,hk,rfl,rfl,hb,hf⟩:=hrel
  have A:=zh ((zu H).below hb hg)
  have HB:=zh hb
  have sz:=hb.size
  clear hb
  cases ok
  ·obtain rfl:k=0:=hf rfl
   by_cases t:0<n
   ·go_wp2_with fail
    refine(sOk _ g n cap ps false hl h20 (by omega) (zu A) OK).mono ?_
    rintro e w1 ⟨rfl,b1⟩
    have A1:=zh ((zu A).below b1 (by omega))
    have B1:=zh (next (zu HB) b1)
    have s1:=b1.size
    clear b1
    have z0:sumI [] i=0:=rfl
    rw[z0]
    go_wp2_with fail
    refine(sOk _ g n cap ps false hl h20 (by omega) (zu A1) OK).mono ?_
    rintro e w2 ⟨rfl,b2⟩
    have B2:=zh (next (zu B1) b2)
    clear b2
    go_wp2_with fail
    refine(sTold 0 false c r _ (by
     rcases zu HS with⟨h1,_⟩|⟨_,h2,h3⟩
     ·exact absurd h1 OK.no
     ·exact .inr ⟨fun q=>(by have:=q.1;cases this),h2,h3⟩)).mono ?_
    rintro e w3 ⟨rfl,rfl⟩
    go_wp2
    go_ret2
    exact⟨rfl,zu B2⟩
   ·exact absurd (show Right ps from⟨by omega,fun i hi=>by omega⟩) OK.no
  ·have RB:=zh (fun k hk=>sum_near (ps:=ps) i OK.yes.1 (fun j hj=>(OK.yes.2 j hj).2.2.1) k hk)
   by_cases t:k<n
   ·go_wp2_with fail
    refine(sOk _ g n cap ps true hl h20 (by omega) (zu A) OK).mono ?_
    rintro e w1 ⟨rfl,b1⟩
    obtain⟨e1,e2,e3⟩:=((zu A).below b1 (by omega)) k (by omega)
    have B1:=zh (next (zu HB) b1)
    clear b1
    have SN:=zh (sumI_next (ps:=ps) (k:=k) (by omega) i)
    have R1:=zh ((zu RB) (k+1) (by omega))
    rw[zu SN] at R1
    generalize (el3 ps k).1=x at *
    generalize (el3 ps k).2.1=y at *
    generalize (el3 ps k).2.2=z at *
    generalize sumI (ps.take k) i=S at *
    by_cases c1:y=i
    ·rw[if_pos c1] at SN R1
     have R2:=zu R1
     have wr1:IntKind.i64.wrap (S+z)=S+z:=by rw[IntKind.wrap_i64];omega
     clear R2
     subst c1
     go_wp2
     go_roundw
     case rel=>exact⟨k+1,by omega,by go_num,by rw[zu SN],zu B1,fun q=>by cases q⟩
     case measure=>simp[intOf];omega
    ·rw[if_neg c1] at SN R1
     have c1b:(y==i)=false:=by simpa using c1
     have SN:=zh ((zu SN).trans (Int.add_zero S))
     go_wp2
     go_roundw
     case rel=>exact⟨k+1,by omega,by go_num,by rw[zu SN],zu B1,fun q=>by cases q⟩
     case measure=>simp[intOf];omega
   ·obtain rfl:k=n:=by omega
    have e0:sumI (ps.take k) i=sumI ps i:=by rw[List.take_of_length_le (by omega)]
    rw[e0]
    clear e0
    go_wp2_with fail
    refine(sOk _ g k cap ps true hl h20 (by omega) (zu A) OK).mono ?_
    rintro e w2 ⟨rfl,b2⟩
    have B2:=zh (next (zu HB) b2)
    clear b2
    go_wp2_with fail
    refine(sTold (sumI ps i) true c r _ (by
     rcases zu HS with⟨h1,h2,h3,h4⟩|⟨h1,h2,h3⟩
     ·exact .inl ⟨rfl,h2,h3,h4⟩
     ·exact .inr ⟨fun q=>h1 ⟨OK.yes,q.2⟩,h2,h3⟩)).mono ?_
    rintro e w3 ⟨rfl,rfl⟩
    go_wp2
    go_ret2
    exact⟨rfl,zu B2⟩
theorem iSum(w:World)(g n cap:Nat)(ps:List T3)(i r:Int)(c:Bool)(hl:ps.length=n)(h20:n≤1048576)(hg:g<w.heap.size)(h:At3 w g ps)(hs:IsSum ps i r c):
  Calls Tryz.prog 153 #[.slice (some ⟨g,0,none⟩) n cap,.int .i64 i] w fun e w'=>e= .returned (.tuple #[.int .i64 r,.bool c])∧Below w.heap.size w w':=by
 obtain⟨ok,OK⟩:=says_of (Right ps)
 have H:=zh h
 have HS:=zh hs
 clear h hs
 go_enter Tryz.func153,Tryz.ntmps153
 go_wp2_with fail
 refine(iOk _ g n cap ps ok hl h20 hg (zu H) OK).mono ?_
 rintro e w1 ⟨rfl,b1⟩
 have B1:=zh b1
 clear b1
 cases ok
 ·obtain⟨rfl,rfl⟩:r=0∧c=false:=by
   rcases zu HS with⟨h1,_⟩|⟨_,h2,h3⟩
   ·exact absurd h1 OK.no
   ·exact⟨h2,h3⟩
  go_wp2
  go_ret2
  exact⟨rfl,zu B1⟩
 have RB:=zh (fun k hk=>sum_near (ps:=ps) i OK.yes.1 (fun j hj=>(OK.yes.2 j hj).2.2.1) k hk)
 go_wp2
 go_loopw [6,8,14] (fun s _ j wr=>∃(k:Nat),k≤n∧j= .int .i64 k∧s= .int .i64 (sumI (ps.take k) i)∧Below w.heap.size w wr) (fun _ _ j _=>n-(intOf j).toNat)
 case atStart=>exact⟨0,by omega,rfl,rfl,zu B1⟩
 case round=>
  obtain⟨k,hk,rfl,rfl,hb⟩:=hrel
  have A:=zh ((zu H).below hb hg)
  have HB:=zh hb
  clear hb
  by_cases t:k<n
  ·obtain⟨e1,e2,e3⟩:=(zu A) k (by omega)
   have SN:=zh (sumI_next (ps:=ps) (k:=k) (by omega) i)
   have R1:=zh ((zu RB) (k+1) (by omega))
   rw[zu SN] at R1
   generalize (el3 ps k).1=x at *
   generalize (el3 ps k).2.1=y at *
   generalize (el3 ps k).2.2=z at *
   generalize sumI (ps.take k) i=S at *
   have NB:=zh ((zu HB).alloc (zu HB).size (.cells #[.int .i64 x,.int .i64 y,.int .i64 z] 119))
   by_cases c1:y=i
   ·rw[if_pos c1] at SN R1
    have R2:=zu R1
    have wr1:IntKind.i64.wrap (S+z)=S+z:=by rw[IntKind.wrap_i64];omega
    clear R2
    subst c1
    go_wp2
    go_roundw
    case rel=>exact⟨k+1,by omega,by go_num,by rw[zu SN],zu NB⟩
    case measure=>simp[intOf];omega
   ·rw[if_neg c1] at SN R1
    have c1b:(y==i)=false:=by simpa using c1
    have SN:=zh ((zu SN).trans (Int.add_zero S))
    go_wp2
    go_roundw
    case rel=>exact⟨k+1,by omega,by go_num,by rw[zu SN],zu NB⟩
    case measure=>simp[intOf];omega
  ·obtain rfl:k=n:=by omega
   have e0:sumI (ps.take k) i=sumI ps i:=by rw[List.take_of_length_le (by omega)]
   rw[e0]
   clear e0
   go_wp2_with fail
   refine(iOnly (sumI ps i) c r _ (by
    rcases zu HS with⟨h1,h2,h3,h4⟩|⟨h1,h2,h3⟩
    ·exact .inl ⟨h2,h3,h4⟩
    ·exact .inr ⟨fun q=>h1 ⟨OK.yes,q⟩,h2,h3⟩)).mono ?_
   rintro e w3 ⟨rfl,rfl⟩
   go_wp2
   go_ret2
   exact⟨rfl,zu HB⟩
theorem sum_is(ps:List T3)(i:Int):∃r c,IsSum ps i r c:=by
 by_cases h:Right ps∧Amt (sumI ps i)
 ·exact⟨_,_,.inl ⟨h.1,h.2,rfl,rfl⟩⟩
 ·exact⟨_,_,.inr ⟨h,rfl,rfl⟩⟩
end Look
namespace IBalsFit
open BMem Bks IRead IHave ITrade ILists
open Lots (Says says_of NoOk)
open Bals (T3 el3 val sumI)
open Triples (At3 Holds3)
theorem all_one{p:Int→Prop}{y:Int}{b:Bool}(h:Says b (p y)):Says b (∀z∈[y],p z):=by
 constructor
 ·intro e z hz
  simp at hz
  subst hz
  exact h.1 e
 ·intro e
  exact h.2 (e y (by simp))
structure St(w W:World)(x:Bx):Prop where
 r:Rd W x
 c:Cl W w.heap.size x
 b:Below w.heap.size w W
 s:w.heap.size<W.heap.size
theorem St.step{w W W':World}{x:Bx}(h:St w W x)(k:Below W.heap.size W W'):St w W' x:=
 ⟨h.r.below k,h.c.below k h.s,h.b.trans (k.mono (Nat.le_of_lt h.s)),Nat.lt_of_lt_of_le h.s k.size⟩
theorem St.start{w:World}{x:Bx}(h:Rd w x)(e:TypeId):St w (w.alloc (.cells #[.slice (some ⟨x.ga,0,none⟩) x.b.ac.length x.ca,.slice (some ⟨x.gi,0,none⟩) x.b.ic.length x.ci,.slice (some ⟨x.gb,0,none⟩) x.b.bs.length x.cb,.slice (some ⟨x.gl,0,none⟩) x.b.ls.length x.cl,.slice (some ⟨x.gt,0,none⟩) x.b.ts.length x.ct,.int .i64 x.b.lot] e)) x:=
 ⟨h.alloc _,boxed w x e,(Below.refl w.heap.size w).alloc (Nat.le_refl _) _,by simp⟩
theorem one_more(w:World)(o:Obj):Below w.heap.size w (w.alloc o):=(Below.refl _ _).alloc (Nat.le_refl _) _
theorem iBalsFit(w:World)(x:Bx)(b:Bool)(h:Rd w x)(hl:Lists x.b)(hb:Says b (BalsFit x.b)):
  Calls Tryz.prog 115 #[.agg #[.slice (some ⟨x.ga,0,none⟩) x.b.ac.length x.ca,.slice (some ⟨x.gi,0,none⟩) x.b.ic.length x.ci,.slice (some ⟨x.gb,0,none⟩) x.b.bs.length x.cb,.slice (some ⟨x.gl,0,none⟩) x.b.ls.length x.cl,.slice (some ⟨x.gt,0,none⟩) x.b.ts.length x.ct,.int .i64 x.b.lot]] w fun e w'=>e= .returned (.bool b)∧Below w.heap.size w w':=by
 have T:=zh hb
 have L:=zh hl
 have S0:=zh (St.start h 36)
 have nb:=h.nb
 have ni:=h.ni
 have G0:=zh h.lb
 have G1:=zh h.li
 have A0:=zh h.rb
 have A1:=zh h.ri
 clear hb hl h
 go_enter Tryz.func115,Tryz.ntmps115
 go_wp2
 go_loopw [12] (fun i wr=>∃(k:Nat),k≤x.b.bs.length∧i= .int .i64 k∧St w wr x∧Hid (∀j,j<k→BalFit x.b (el3 x.b.bs j))) (fun i _=>x.b.bs.length-(intOf i).toNat)
 case atStart=>exact⟨0,by omega,rfl,zu S0,zh (fun i hi=>absurd hi (by omega))⟩
 case round=>
  obtain⟨k,hk,rfl,hS,HG⟩:=hrel
  clear S0
  by_cases t:k<x.b.bs.length
  ·obtain⟨d0,d1,d2⟩:=(hS.r.rb k t)
   obtain⟨c0,c1,c2,c3,c4,c5⟩:=hS.c
   have BAD:=zh (show ¬BalFit x.b (el3 x.b.bs k)→b=false from fun hr=>(zu T).not (fun r=>hr (r.1 k t)))
   have GOOD:=zh (show BalFit x.b (el3 x.b.bs k)→∀i,i<k+1→BalFit x.b (el3 x.b.bs i) from fun hr i hi=>by
    by_cases e:i=k
    ·subst e;exact hr
    ·exact(zu HG) i (by omega))
   have FIT:=zh (show BalFit x.b (el3 x.b.bs k)↔kindOf x.b.ac (el3 x.b.bs k).1≠0∧kindOf x.b.ic (el3 x.b.bs k).2.1≠0∧¬(kindOf x.b.ac (el3 x.b.bs k).1=1∧(el3 x.b.bs k).2.2<0) from Iff.rfl)
   have wz:=hS.s
   have S1:=zh (hS.step (one_more wr (.cells #[.int .i64 (el3 x.b.bs k).1,.int .i64 (el3 x.b.bs k).2.1,.int .i64 (el3 x.b.bs k).2.2] 119)))
   clear hS
   generalize (el3 x.b.bs k).1=y0 at *
   generalize (el3 x.b.bs k).2.1=y1 at *
   generalize (el3 x.b.bs k).2.2=y2 at *
   obtain⟨b0,h0⟩:=says_of (kindOf x.b.ac y0≠0)
   obtain⟨b1,h1⟩:=says_of (kindOf x.b.ic y1≠0)
   obtain⟨b2,h2⟩:=says_of (kindOf x.b.ac y0=1)
   have H0:=zh h0
   have H1:=zh h1
   have H2:=zh h2
   clear h0 h1 h2
   go_wp2_with fail
   have S2:=zh ((zu S1).step (one_more _ (.cells #[.int .i64 y0] 3)))
   refine(iHaveAccounts _ x (wr.heap.size+1) 1 1 [y0] b0 (zu S2).r (zu L).1 rfl (by omega) (by simp) (at_new _ [y0] _ (by simp) rfl) (all_one (zu H0))).mono ?_
   rintro e w1 ⟨rfl,bb⟩
   have S3:=zh ((zu S2).step bb)
   have f0:w1.cell? ⟨wr.heap.size,0,none⟩=some (.int .i64 y0):=(bb.cell (p:=⟨wr.heap.size,0,none⟩) (by simp;omega)).trans (by simp)
   have f1:w1.cell? ⟨wr.heap.size,1,none⟩=some (.int .i64 y1):=(bb.cell (p:=⟨wr.heap.size,1,none⟩) (by simp;omega)).trans (by simp)
   have f2:w1.cell? ⟨wr.heap.size,2,none⟩=some (.int .i64 y2):=(bb.cell (p:=⟨wr.heap.size,2,none⟩) (by simp;omega)).trans (by simp)
   have z1:wr.heap.size<w1.heap.size:=by have:=bb.size;simp at this;omega
   clear bb c0 c1 c2 c3 c4 c5 d0 d1 d2
   obtain⟨c0,c1,c2,c3,c4,c5⟩:=(zu S3).c
   cases b0
   ·have F:=zh ((zu BAD) (fun hh=>(zu H0).no ((zu FIT).1 hh).1))
    clear BAD GOOD FIT T
    go_wp2
    go_ret
    exact⟨by rw[zu F];rfl,(zu S3).b⟩
   go_wp2_with fail
   have S4:=zh ((zu S3).step (one_more _ (.cells #[.int .i64 y1] 3)))
   refine(iHaveInstrs _ x w1.heap.size 1 1 [y1] b1 (zu S4).r (zu L).2.1 rfl (by omega) (by simp) (at_new _ [y1] _ rfl rfl) (all_one (zu H1))).mono ?_
   rintro e w2 ⟨rfl,bb⟩
   have S5:=zh ((zu S4).step bb)
   have g0:w2.cell? ⟨wr.heap.size,0,none⟩=some (.int .i64 y0):=(bb.cell (p:=⟨wr.heap.size,0,none⟩) (by simp;omega)).trans ((World.cell?_alloc_past _ _ _ z1).trans f0)
   have g2:w2.cell? ⟨wr.heap.size,2,none⟩=some (.int .i64 y2):=(bb.cell (p:=⟨wr.heap.size,2,none⟩) (by simp;omega)).trans ((World.cell?_alloc_past _ _ _ z1).trans f2)
   clear bb c0 c1 c2 c3 c4 c5 f0 f1 f2
   obtain⟨c0,c1,c2,c3,c4,c5⟩:=(zu S5).c
   cases b1
   ·have F:=zh ((zu BAD) (fun hh=>(zu H1).no ((zu FIT).1 hh).2.1))
    clear BAD GOOD FIT T
    go_wp2
    go_ret
    exact⟨by rw[zu F];rfl,(zu S5).b⟩
   by_cases q:y2<0
   ·go_wp2_with fail
    refine(iHolder _ x y0 b2 (zu S5).r (zu L).1 (zu H2)).mono ?_
    rintro e w3 ⟨rfl,bb⟩
    have S6:=zh ((zu S5).step bb)
    clear bb c0 c1 c2 c3 c4 c5
    cases b2
    ·have G:=zh ((zu GOOD) ((zu FIT).2 ⟨(zu H0).yes,(zu H1).yes,fun r=>(zu H2).no r.1⟩))
     clear BAD GOOD FIT
     go_wp2
     go_roundw
     case rel=>exact⟨k+1,by omega,by go_num,zu S6,G⟩
     case measure=>simp[intOf];omega
    ·have F:=zh ((zu BAD) (fun hh=>((zu FIT).1 hh).2.2 ⟨(zu H2).yes,q⟩))
     clear BAD GOOD FIT T
     go_wp2
     go_ret
     exact⟨by rw[zu F];rfl,(zu S6).b⟩
   ·have G:=zh ((zu GOOD) ((zu FIT).2 ⟨(zu H0).yes,(zu H1).yes,fun r=>q r.2⟩))
    have hq:decide (y2<0)=false:=decide_eq_false q
    clear BAD GOOD FIT q
    go_wp2
    go_roundw
    case rel=>exact⟨k+1,by omega,by go_num,zu S5,G⟩
    case measure=>simp[intOf];omega
  ·have ALL:=zh (show ∀k,k<x.b.bs.length→BalFit x.b (el3 x.b.bs k) from fun j hj=>(zu HG) j (by omega))
   obtain⟨c0,c1,c2,c3,c4,c5⟩:=hS.c
   have S1:=zh hS
   clear hS HG
   go_wp2
   go_loopw [43] (fun i wr=>∃(k:Nat),k≤x.b.ic.length∧i= .int .i64 k∧St w wr x∧Hid (∀j,j<k→sumI x.b.bs (Chart.el x.b.ic j).1=0)) (fun i _=>x.b.ic.length-(intOf i).toNat)
   case atStart=>exact⟨0,by omega,rfl,zu S1,zh (fun i hi=>absurd hi (by omega))⟩
   case round=>
    clear c0 c1 c2 c3 c4 c5 S1 hk t
    obtain⟨k,hk,rfl,hS,HG⟩:=hrel
    by_cases t:k<x.b.ic.length
    ·obtain⟨d0,d1⟩:=(hS.r.ri k t)
     have c2:=hS.c.c2
     have S1:=zh (hS.step (one_more _ (.cells #[.int .i64 (Chart.el x.b.ic k).1,.int .i64 (Chart.el x.b.ic k).2] 111)))
     have wz:=hS.s
     clear hS
     have BAD:=zh (show sumI x.b.bs (Chart.el x.b.ic k).1≠0→b=false from fun hr=>(zu T).not (fun r=>hr (r.2 _)))
     have GOOD:=zh (show sumI x.b.bs (Chart.el x.b.ic k).1=0→∀i,i<k+1→sumI x.b.bs (Chart.el x.b.ic i).1=0 from fun hr i hi=>by
      by_cases e:i=k
      ·subst e;exact hr
      ·exact(zu HG) i (by omega))
     generalize (Chart.el x.b.ic k).1=y0 at *
     generalize (Chart.el x.b.ic k).2=y1 at *
     obtain⟨r,c,hs⟩:=Look.sum_is x.b.bs y0
     have Z:=zh (sum_zero (zu L).2.2.1 hs)
     have HS:=zh hs
     clear hs
     go_wp2_with fail
     refine(Look.iSum _ x.gb _ x.cb x.b.bs y0 r c rfl nb (zu S1).r.lb (zu S1).r.rb (zu HS)).mono ?_
     rintro e w1 ⟨rfl,bb⟩
     have S2:=zh ((zu S1).step bb)
     clear bb c2 d0 d1
     cases c
     ·have F:=zh ((zu BAD) (fun e=>by have:=(zu Z).2 e;cases this.1))
      clear BAD GOOD T
      go_wp2
      go_ret
      exact⟨by rw[zu F];rfl,(zu S2).b⟩
     by_cases q:r=0
     ·have G:=zh ((zu GOOD) ((zu Z).1 ⟨rfl,q⟩))
      have hq:(r !=0)=false:=by simp[q]
      clear BAD GOOD q
      go_wp2
      go_roundw
      case rel=>exact⟨k+1,by omega,by go_num,zu S2,G⟩
      case measure=>simp[intOf];omega
     ·have F:=zh ((zu BAD) (fun e=>q ((zu Z).2 e).2))
      have hq:(r !=0)=true:=by simp[q]
      clear BAD GOOD T q
      go_wp2
      go_ret
      exact⟨by rw[zu F];rfl,(zu S2).b⟩
    ·have F:=zh ((zu T).of (bals_impl (zu ALL) (fun j hj=>(zu HG) j (by omega))))
     have S1:=zh hS
     clear hS
     go_wp2
     go_ret
     exact⟨by rw[zu F];rfl,(zu S1).b⟩
end IBalsFit
namespace AccountHelp
open Pairs
theorem info2:(Tryz.prog.info? 92).map (fun i=>(i.zero,i.size,i.bytes))=some (some (.agg #[.int .i64 0,.int .i64 0]),2,16):=by kernel_rfl
theorem to1(w:World)(x y:Int):Calls Tryz.prog 92 #[.agg #[.int .i64 x,.int .i64 y]] w fun e w'=>e= .returned (.agg #[.int .i64 x,.int .i64 y])∧Below w.heap.size w w':=by
 go_enter Tryz.func92,Tryz.ntmps92
 go_wp2
 refine bodyPost_ret (v:= .agg #[.int .i64 x,.int .i64 y]) (by simp[results,Tryz.results92,go_sem]) rfl ⟨rfl,?_⟩
 exact(((Below.refl _ _).alloc (Nat.le_refl _) _).alloc (by simp) _).alloc (by simp;omega) _
theorem made_pairs(n:Nat):(madeCells (Value.agg #[.int .i64 0,.int .i64 0]).cells (n*2)).toList=flat (List.replicate n (0,0)):=by
 apply List.ext_getElem?
 intro j
 by_cases hj:j<n*2
 ·have hs:(Value.agg #[Value.int .i64 0,Value.int .i64 0]).cells= #[Value.int .i64 0,Value.int .i64 0]:=rfl
  rw[hs]
  obtain⟨f0,f1⟩:=flat_get (List.replicate n (0,0)) (j/2) (by simp;omega)
  have hg:(List.replicate n ((0:Int),(0:Int))).getD (j/2) (0,0)=(0,0):=by simp[List.getD,show j/2<n by omega]
  rw[hg] at f0 f1
  rcases(show j%2=0∨j%2=1 by omega) with e|e
  ·rw[show j/2*2=j by omega] at f0
   rw[f0]
   simp[madeCells,hj,e]
  ·rw[show j/2*2+1=j by omega] at f1
   rw[f1]
   simp[madeCells,hj,e]
 ·rw[List.getElem?_eq_none (by simp[madeCells];omega),List.getElem?_eq_none (by rw[flat_len];simp;omega)]
def part(ps:List (Int×Int))(n k:Nat):List (Int×Int):=ps.take k++List.replicate (n-k) (0,0)
theorem part_zero(ps:List (Int×Int))(n:Nat):part ps n 0=List.replicate n (0,0):=by simp[part]
theorem part_all(ps:List (Int×Int))(n:Nat)(h:ps.length=n):part ps n n=ps:=by
 unfold part
 rw[←h];simp
theorem part_step(ps:List (Int×Int))(n k:Nat)(h:ps.length=n)(hk:k<n):((part ps n k).modify k fun p=>((ps.getD k (0,0)).1,p.2)).modify k (fun p=>(p.1,(ps.getD k (0,0)).2))=part ps n (k+1):=by
 subst h
 unfold part
 apply List.ext_getElem?
 intro j
 have l1:(ps.take k).length=k:=by simp;omega
 have l2:(ps.take (k+1)).length=k+1:=by simp;omega
 rw[List.getElem?_modify,List.getElem?_modify]
 by_cases e:k=j
 ·subst e
  rw[List.getElem?_append_right (by omega),List.getElem?_append_left (by omega),List.getElem?_take,if_pos (by omega),l1]
  simp[List.getD,hk,show 0<ps.length-k by omega]
 ·by_cases l:j<k
  ·rw[List.getElem?_append_left (by omega),List.getElem?_append_left (by omega),List.getElem?_take,List.getElem?_take,if_pos l,if_pos (by omega)]
   simp[e]
  ·rw[List.getElem?_append_right (by omega),List.getElem?_append_right (by omega),l1,l2]
   simp only[List.getElem?_replicate]
   by_cases m:j<ps.length
   ·rw[if_pos (by omega),if_pos (by omega)];simp[e]
   ·rw[if_neg (by omega),if_neg (by omega)];simp[e]
theorem toS(w:World)(a:Option Addr)(len cap:Nat)(ps:List (Int×Int))(hl:ps.length=len)(h20:len≤1048576)(hr:Reads w a ps):
  Calls Tryz.prog 37 #[.slice a len cap] w fun e w'=>e= .returned (.slice (some ⟨w.heap.size,0,none⟩) len len)∧Own 92 w' w.heap.size w.heap.size len len ps∧Below w.heap.size w w':=by
 obtain⟨i0,hi,hz0,hz1,hz2⟩:=info_parts info2
 go_enter Tryz.func37,Tryz.ntmps37
 go_wp2_with (at_make;refine wpList_make_full _ rfl _ _ 30 rfl w.heap.size 92 i0 (.agg #[.int .i64 0,.int .i64 0]) 2 Tryz.underlying30 hi hz0 hz1 .i64 .i64 _ _ len rfl rfl rfl rfl (by rw[hz2];omega) (by unfold maxLen;omega) (Nat.le_refl _) ?_;intro w1 hown hgrow)
 rw[made_pairs,←part_zero ps] at hown
 have hb:=grownBy_below hgrow
 have hown:Own 92 w1 w.heap.size w.heap.size len len (part ps len 0):=hown
 clear hgrow
 go_loopw [4] (fun i wr=>∃(k:Nat),k≤len∧i= .int .i64 k∧Own 92 wr w.heap.size w.heap.size len len (part ps len k)∧Below w.heap.size w wr) (fun i _=>len-(intOf i).toNat)
 case atStart=>exact⟨0,by omega,rfl,hown,hb⟩
 case round=>
  clear hown hb
  obtain⟨k,hk,rfl,hown,hb⟩:=hrel
  by_cases t:k<len
  ·rcases hr with hz|⟨b,off,rfl,hlt,hcell⟩
   ·omega
   have hc0:=(hb.cell (p:=⟨b,off+k*2,none⟩) hlt).trans (hcell k (by omega)).1
   have hc1:=(hb.cell (p:=⟨b,off+k*2+1,none⟩) hlt).trans (hcell k (by omega)).2
   clear hcell
   have HO:=zh hown
   have HB:=zh hb
   clear hown hb
   generalize hx:(ps.getD k (0,0)).1=x at *
   generalize hy:(ps.getD k (0,0)).2=y at *
   have HX:=zh hx
   have HY:=zh hy
   clear hx hy
   go_wp2_with fail
   refine(to1 _ x y).mono ?_
   rintro e w2 ⟨rfl,b2⟩
   have o2:=(zu HO).below b2 (zu HO).lt.2
   have hb2:=(zu HB).trans (b2.mono (zu HB).size)
   clear HO HB b2 hc0 hc1
   have hs:=o2.set0 k x
   have hs2:=hs.1.set1 k y
   have hd:=o2.at k (by rw[o2.len];exact t)
   have hd0:=hd.1
   have hd1:=hd.2
   have hf0:=o2.free (k*2)
   have hf1:=o2.free (k*2+1)
   have HS:=zh hs2.1
   have HB:=zh ((hb2.setCell (p:=⟨w.heap.size,k*2,none⟩) (Nat.le_refl _) (.int .i64 x)).setCell (p:=⟨w.heap.size,k*2+1,none⟩) (Nat.le_refl _) (.int .i64 y))
   clear hs hs2 hd o2 hb2
   go_wp2
   go_roundw
   case rel=>
    have o:=zu HS
    rw[←zu HX,←zu HY] at o
    rw[part_step ps len k hl t] at o
    refine⟨k+1,by omega,by go_num,?_,zu HB⟩
    rw[←zu HX,←zu HY]
    exact o
   case measure=>simp[intOf];omega
  ·obtain rfl:k=len:=by omega
   rw[part_all ps k hl] at hown
   have HO:=zh hown
   have HB:=zh hb
   clear hown hb hr
   go_wp2
   go_ret
   exact⟨rfl,zu HO,zu HB⟩
theorem eq1(w:World)(x y:Int):Calls Tryz.prog 109 #[.agg #[.int .i64 x,.int .i64 y],.agg #[.int .i64 x,.int .i64 y]] w fun e w'=>e= .returned (.bool true)∧w'=(w.alloc (.cells #[.int .i64 x,.int .i64 y] 92)).alloc (.cells #[.int .i64 x,.int .i64 y] 92):=by
 go_enter Tryz.func109,Tryz.ntmps109
 go_wp2
 go_ret
 exact⟨rfl,rfl⟩
theorem two_more(w:World)(o p:Obj):Below w.heap.size w ((w.alloc o).alloc p).drew:=(((Below.refl _ _).alloc (Nat.le_refl _) _).alloc (by simp) _).drew
theorem eqS(w:World)(g1 g2 n c1 c2:Nat)(ps:List (Int×Int))(hl:ps.length=n)(h20:n≤1048576)(l1:g1<w.heap.size)(l2:g2<w.heap.size)(h1:At w g1 ps)(h2:At w g2 ps):
  Calls Tryz.prog 51 #[.slice (some ⟨g1,0,none⟩) n c1,.slice (some ⟨g2,0,none⟩) n c2] w fun e w'=>e= .returned (.bool true)∧Below w.heap.size w w':=by
 go_enter Tryz.func51,Tryz.ntmps51
 go_wp2
 go_loopw [5] (fun i wr=>∃(k:Nat),k≤n∧i= .int .i64 k∧At wr g1 ps∧At wr g2 ps∧Below w.heap.size w wr) (fun i _=>n-(intOf i).toNat)
 case atStart=>exact⟨0,by omega,rfl,h1,h2,Below.refl _ _⟩
 case round=>
  clear h1 h2
  obtain⟨k,hk,rfl,h1,h2,hb⟩:=hrel
  by_cases t:k<n
  ·obtain⟨e1,f1⟩:=h1 k (by omega)
   obtain⟨e2,f2⟩:=h2 k (by omega)
   have s:=hb.size
   have H1:=zh h1
   have H2:=zh h2
   have HB:=zh hb
   clear h1 h2 hb
   generalize (ps.getD k (0,0)).1=x at *
   generalize (ps.getD k (0,0)).2=y at *
   go_wp2_with fail
   go_region_held3 (fun w'=>w'.cell? ⟨g1,k*2,none⟩=some (.int .i64 x)∧w'.cell? ⟨g2,k*2,none⟩=some (.int .i64 x)∧w'.cell? ⟨g1,k*2+1,none⟩=some (.int .i64 y)∧w'.cell? ⟨g2,k*2+1,none⟩=some (.int .i64 y)) (go_keep)
    (first|(go_at_call 109;refine(eq1 _ _ _).mono ?_;rintro e w2 ⟨rfl,rfl⟩))
   all_goals(go_wp2;go_roundw)
   all_goals first
    |(have b2:=two_more wr (.cells #[.int .i64 x,.int .i64 y] 92) (.cells #[.int .i64 x,.int .i64 y] 92)
      exact⟨k+1,by omega,by go_num,(zu H1).below b2 (by omega),(zu H2).below b2 (by omega),next (zu HB) b2⟩)
    |(simp[intOf];omega)
  ·have HB:=zh hb
   clear h1 h2 hb
   go_wp2
   go_ret
   exact⟨rfl,zu HB⟩
end AccountHelp
namespace AccountMark
open Pairs
def marks(s:Int)(n:Nat):List (Int×Int):=(List.range n).map fun(i:Nat)=>(s+2*(i:Int),s+2*(i:Int)+1)
theorem marks_len(s:Int)(n:Nat):(marks s n).length=n:=by simp[marks]
theorem marks_getD(s:Int)(n i:Nat)(h:i<n):(marks s n).getD i (0,0)=(s+2*(i:Int),s+2*(i:Int)+1):=by simp[marks,List.getD,h]
def marked(s:Int)(ps:List (Int×Int))(n j:Nat):List (Int×Int):=(marks s n).take j++ps.drop j
theorem marked_zero(s:Int)(ps:List (Int×Int))(n:Nat):marked s ps n 0=ps:=by simp[marked]
theorem marked_all(s:Int)(ps:List (Int×Int))(n:Nat)(h:ps.length=n):marked s ps n n=marks s n:=by
 unfold marked
 rw[List.take_of_length_le (by rw[marks_len];exact Nat.le_refl _),List.drop_of_length_le (by omega),List.append_nil]
theorem marked_step(s:Int)(ps:List (Int×Int))(n j:Nat)(h:ps.length=n)(hj:j<n):((marked s ps n j).modify j fun p=>(s+2*(j:Int),p.2)).modify j (fun p=>(p.1,s+2*(j:Int)+1))=marked s ps n (j+1):=by
 unfold marked
 have l:=marks_len s n
 have g:=marks_getD s n j hj
 have l1:((marks s n).take j).length=j:=by simp;omega
 have l2:((marks s n).take (j+1)).length=j+1:=by simp;omega
 apply List.ext_getElem?
 intro i
 rw[List.getElem?_modify,List.getElem?_modify]
 by_cases e:j=i
 ·subst e
  rw[List.getElem?_append_right (by omega),List.getElem?_append_left (by omega),List.getElem?_take,if_pos (by omega),l1]
  have hg:(marks s n)[j]?=some (s+2*(j:Int),s+2*(j:Int)+1):=by
   rw[←g];simp[List.getD,l,hj]
  rw[hg]
  simp[List.getElem?_drop,h,hj]
 ·by_cases q:i<j
  ·rw[List.getElem?_append_left (by omega),List.getElem?_append_left (by omega),List.getElem?_take,List.getElem?_take,if_pos q,if_pos (by omega)]
   simp[e]
  ·rw[List.getElem?_append_right (by omega),List.getElem?_append_right (by omega),l1,l2]
   simp only[List.getElem?_drop]
   rw[show j+(i-j)=i by omega,show j+1+(i-(j+1))=i by omega]
   simp[e]
theorem markS(w:World)(base g n cap:Nat)(s:Int)(ps:List (Int×Int))(h20:n≤1048576)(s0:0≤s)(s1:s≤100000000)(ho:Own 92 w base g n cap ps):
  Calls Tryz.prog 56 #[.slice (some ⟨g,0,none⟩) n cap,.int .i64 s] w fun e w'=>e= .returned (.int .i64 (s+2*(n:Int)))∧Own 92 w' base g n cap (marks s n)∧w.grownBy w' (some g):=by
 have hl:=ho.len
 have ho':Own 92 w base g n cap (marked s ps n 0):=by rw[marked_zero];exact ho
 clear ho
 go_enter Tryz.func56,Tryz.ntmps56
 go_wp2
 go_loopw [1,5] (fun m i wr=>∃(k:Nat),k≤n∧i= .int .i64 k∧m= .int .i64 (s+2*(k:Int))∧Own 92 wr base g n cap (marked s ps n k)∧w.grownBy wr (some g)) (fun _ i _=>n-(intOf i).toNat)
 case atStart=>exact⟨0,by omega,rfl,by go_num,ho',World.grownBy.refl _ _⟩
 case round=>
  clear ho'
  obtain⟨k,hk,rfl,rfl,hown,hg⟩:=hrel
  by_cases t:k<n
  ·obtain⟨o1,q1⟩:=hown.set0 k (s+2*(k:Int))
   obtain⟨o2,q2⟩:=o1.set1 k (s+2*(k:Int)+1)
   obtain⟨hd0,hd1⟩:=hown.at k (by rw[Own.len hown];exact t)
   have hf0:=hown.free (k*2)
   have hf1:=hown.free (k*2+1)
   rw[marked_step s ps n k hl t] at o2
   have HO:=zh o2
   have HG:=zh (grown_trans (grown_trans hg q1) q2)
   clear hown hg o1 q1 o2 q2
   generalize ((marked s ps n k).getD k (0,0)).1=z0 at hd0
   generalize ((marked s ps n k).getD k (0,0)).2=z1 at hd1
   go_wp2
   go_roundw
   case rel=>exact⟨k+1,by omega,by go_num,by go_num,zu HO,zu HG⟩
   case measure=>simp[intOf];omega
  ·obtain rfl:k=n:=by omega
   rw[marked_all s ps k hl] at hown
   have HO:=zh hown
   have HG:=zh hg
   clear hown hg
   go_wp2
   go_ret
   exact⟨rfl,zu HO,zu HG⟩
theorem heldS(w:World)(g n cap:Nat)(s:Int)(h20:n≤1048576)(s0:0≤s)(s1:s≤100000000)(h:At w g (marks s n)):
  Calls Tryz.prog 61 #[.slice (some ⟨g,0,none⟩) n cap,.int .i64 s] w fun e w'=>e= .returned (.int .i64 (s+2*(n:Int)))∧w'=w:=by
 go_enter Tryz.func61,Tryz.ntmps61
 go_wp2
 go_loop [1,5] (fun m i=>∃(k:Nat),k≤n∧i= .int .i64 k∧m= .int .i64 (s+2*(k:Int))) (fun _ i=>n-(intOf i).toNat)
 case atStart=>exact⟨0,by omega,rfl,by go_num⟩
 case round=>
  obtain⟨k,hk,rfl,rfl⟩:=hrel
  by_cases t:k<n
  ·obtain⟨e0,e1⟩:=h k (by rw[marks_len];exact t)
   rw[marks_getD s n k t] at e0 e1
   clear h
   go_wp2
   go_round
   case rel=>exact⟨k+1,by omega,by go_num,by go_num⟩
   case measure=>simp[intOf];omega
  ·obtain rfl:k=n:=by omega
   clear h
   go_wp2
   go_ret
   exact⟨rfl,rfl⟩
theorem sz_yes(a:Option Addr)(len cap:Nat)(l:Int)(w:World)(h:(len:Int)≤l)(hl:l≤1048576):
  Calls Tryz.prog 23 #[.slice a len cap,.int .i64 l] w fun e w'=>e= .returned (.int .i64 (l-(len:Int)))∧w'=w:=by
 have h1:(0:Int)≤l-(len:Int):=by omega
 have h2:wrap64 (l-(len:Int))=l-(len:Int):=by rw[wrap64];omega
 go_enter Tryz.func23,Tryz.ntmps23
 go_wp2
 go_ret
 exact⟨rfl,rfl⟩
theorem sz_no(a:Option Addr)(len cap:Nat)(l:Int)(w:World)(h:¬(len:Int)≤l)(hl:l≤1048576)(h0:0≤l)(hm:len≤9223372036854775807):
  Calls Tryz.prog 23 #[.slice a len cap,.int .i64 l] w fun e w'=>e= .returned (.int .i64 (-1))∧w'=w:=by
 have h1:l-(len:Int)<0:=by omega
 have h2:wrap64 (l-(len:Int))=l-(len:Int):=by rw[wrap64];omega
 go_enter Tryz.func23,Tryz.ntmps23
 go_wp2
 go_ret
 exact⟨rfl,rfl⟩
end AccountMark
namespace InstrHelp
open Pairs
theorem info2:(Tryz.prog.info? 111).map (fun i=>(i.zero,i.size,i.bytes))=some (some (.agg #[.int .i64 0,.int .i64 0]),2,16):=by kernel_rfl
theorem to1(w:World)(x y:Int):Calls Tryz.prog 93 #[.agg #[.int .i64 x,.int .i64 y]] w fun e w'=>e= .returned (.agg #[.int .i64 x,.int .i64 y])∧Below w.heap.size w w':=by
 go_enter Tryz.func93,Tryz.ntmps93
 go_wp2
 refine bodyPost_ret (v:= .agg #[.int .i64 x,.int .i64 y]) (by simp[results,Tryz.results93,go_sem]) rfl ⟨rfl,?_⟩
 exact(((Below.refl _ _).alloc (Nat.le_refl _) _).alloc (by simp) _).alloc (by simp;omega) _
theorem made_pairs(n:Nat):(madeCells (Value.agg #[.int .i64 0,.int .i64 0]).cells (n*2)).toList=flat (List.replicate n (0,0)):=by
 apply List.ext_getElem?
 intro j
 by_cases hj:j<n*2
 ·have hs:(Value.agg #[Value.int .i64 0,Value.int .i64 0]).cells= #[Value.int .i64 0,Value.int .i64 0]:=rfl
  rw[hs]
  obtain⟨f0,f1⟩:=flat_get (List.replicate n (0,0)) (j/2) (by simp;omega)
  have hg:(List.replicate n ((0:Int),(0:Int))).getD (j/2) (0,0)=(0,0):=by simp[List.getD,show j/2<n by omega]
  rw[hg] at f0 f1
  rcases(show j%2=0∨j%2=1 by omega) with e|e
  ·rw[show j/2*2=j by omega] at f0
   rw[f0]
   simp[madeCells,hj,e]
  ·rw[show j/2*2+1=j by omega] at f1
   rw[f1]
   simp[madeCells,hj,e]
 ·rw[List.getElem?_eq_none (by simp[madeCells];omega),List.getElem?_eq_none (by rw[flat_len];simp;omega)]
def part(ps:List (Int×Int))(n k:Nat):List (Int×Int):=ps.take k++List.replicate (n-k) (0,0)
theorem part_zero(ps:List (Int×Int))(n:Nat):part ps n 0=List.replicate n (0,0):=by simp[part]
theorem part_all(ps:List (Int×Int))(n:Nat)(h:ps.length=n):part ps n n=ps:=by
 unfold part
 rw[←h];simp
theorem part_step(ps:List (Int×Int))(n k:Nat)(h:ps.length=n)(hk:k<n):((part ps n k).modify k fun p=>((ps.getD k (0,0)).1,p.2)).modify k (fun p=>(p.1,(ps.getD k (0,0)).2))=part ps n (k+1):=by
 subst h
 unfold part
 apply List.ext_getElem?
 intro j
 have l1:(ps.take k).length=k:=by simp;omega
 have l2:(ps.take (k+1)).length=k+1:=by simp;omega
 rw[List.getElem?_modify,List.getElem?_modify]
 by_cases e:k=j
 ·subst e
  rw[List.getElem?_append_right (by omega),List.getElem?_append_left (by omega),List.getElem?_take,if_pos (by omega),l1]
  simp[List.getD,hk,show 0<ps.length-k by omega]
 ·by_cases l:j<k
  ·rw[List.getElem?_append_left (by omega),List.getElem?_append_left (by omega),List.getElem?_take,List.getElem?_take,if_pos l,if_pos (by omega)]
   simp[e]
  ·rw[List.getElem?_append_right (by omega),List.getElem?_append_right (by omega),l1,l2]
   simp only[List.getElem?_replicate]
   by_cases m:j<ps.length
   ·rw[if_pos (by omega),if_pos (by omega)];simp[e]
   ·rw[if_neg (by omega),if_neg (by omega)];simp[e]
theorem toS(w:World)(a:Option Addr)(len cap:Nat)(ps:List (Int×Int))(hl:ps.length=len)(h20:len≤1048576)(hr:Reads w a ps):
  Calls Tryz.prog 38 #[.slice a len cap] w fun e w'=>e= .returned (.slice (some ⟨w.heap.size,0,none⟩) len len)∧Own 111 w' w.heap.size w.heap.size len len ps∧Below w.heap.size w w':=by
 obtain⟨i0,hi,hz0,hz1,hz2⟩:=info_parts info2
 go_enter Tryz.func38,Tryz.ntmps38
 go_wp2_with (at_make;refine wpList_make_full _ rfl _ _ 31 rfl w.heap.size 111 i0 (.agg #[.int .i64 0,.int .i64 0]) 2 Tryz.underlying31 hi hz0 hz1 .i64 .i64 _ _ len rfl rfl rfl rfl (by rw[hz2];omega) (by unfold maxLen;omega) (Nat.le_refl _) ?_;intro w1 hown hgrow)
 rw[made_pairs,←part_zero ps] at hown
 have hb:=grownBy_below hgrow
 have hown:Own 111 w1 w.heap.size w.heap.size len len (part ps len 0):=hown
 clear hgrow
 go_loopw [4] (fun i wr=>∃(k:Nat),k≤len∧i= .int .i64 k∧Own 111 wr w.heap.size w.heap.size len len (part ps len k)∧Below w.heap.size w wr) (fun i _=>len-(intOf i).toNat)
 case atStart=>exact⟨0,by omega,rfl,hown,hb⟩
 case round=>
  clear hown hb
  obtain⟨k,hk,rfl,hown,hb⟩:=hrel
  by_cases t:k<len
  ·rcases hr with hz|⟨b,off,rfl,hlt,hcell⟩
   ·omega
   have hc0:=(hb.cell (p:=⟨b,off+k*2,none⟩) hlt).trans (hcell k (by omega)).1
   have hc1:=(hb.cell (p:=⟨b,off+k*2+1,none⟩) hlt).trans (hcell k (by omega)).2
   clear hcell
   have HO:=zh hown
   have HB:=zh hb
   clear hown hb
   generalize hx:(ps.getD k (0,0)).1=x at *
   generalize hy:(ps.getD k (0,0)).2=y at *
   have HX:=zh hx
   have HY:=zh hy
   clear hx hy
   go_wp2_with fail
   refine(to1 _ x y).mono ?_
   rintro e w2 ⟨rfl,b2⟩
   have o2:=(zu HO).below b2 (zu HO).lt.2
   have hb2:=(zu HB).trans (b2.mono (zu HB).size)
   clear HO HB b2 hc0 hc1
   have hs:=o2.set0 k x
   have hs2:=hs.1.set1 k y
   have hd:=o2.at k (by rw[o2.len];exact t)
   have hd0:=hd.1
   have hd1:=hd.2
   have hf0:=o2.free (k*2)
   have hf1:=o2.free (k*2+1)
   have HS:=zh hs2.1
   have HB:=zh ((hb2.setCell (p:=⟨w.heap.size,k*2,none⟩) (Nat.le_refl _) (.int .i64 x)).setCell (p:=⟨w.heap.size,k*2+1,none⟩) (Nat.le_refl _) (.int .i64 y))
   clear hs hs2 hd o2 hb2
   go_wp2
   go_roundw
   case rel=>
    have o:=zu HS
    rw[←zu HX,←zu HY] at o
    rw[part_step ps len k hl t] at o
    refine⟨k+1,by omega,by go_num,?_,zu HB⟩
    rw[←zu HX,←zu HY]
    exact o
   case measure=>simp[intOf];omega
  ·obtain rfl:k=len:=by omega
   rw[part_all ps k hl] at hown
   have HO:=zh hown
   have HB:=zh hb
   clear hown hb hr
   go_wp2
   go_ret
   exact⟨rfl,zu HO,zu HB⟩
theorem eq1(w:World)(x y:Int):Calls Tryz.prog 110 #[.agg #[.int .i64 x,.int .i64 y],.agg #[.int .i64 x,.int .i64 y]] w fun e w'=>e= .returned (.bool true)∧w'=(w.alloc (.cells #[.int .i64 x,.int .i64 y] 111)).alloc (.cells #[.int .i64 x,.int .i64 y] 111):=by
 go_enter Tryz.func110,Tryz.ntmps110
 go_wp2
 go_ret
 exact⟨rfl,rfl⟩
theorem two_more(w:World)(o p:Obj):Below w.heap.size w ((w.alloc o).alloc p).drew:=(((Below.refl _ _).alloc (Nat.le_refl _) _).alloc (by simp) _).drew
theorem eqS(w:World)(g1 g2 n c1 c2:Nat)(ps:List (Int×Int))(hl:ps.length=n)(h20:n≤1048576)(l1:g1<w.heap.size)(l2:g2<w.heap.size)(h1:At w g1 ps)(h2:At w g2 ps):
  Calls Tryz.prog 52 #[.slice (some ⟨g1,0,none⟩) n c1,.slice (some ⟨g2,0,none⟩) n c2] w fun e w'=>e= .returned (.bool true)∧Below w.heap.size w w':=by
 go_enter Tryz.func52,Tryz.ntmps52
 go_wp2
 go_loopw [5] (fun i wr=>∃(k:Nat),k≤n∧i= .int .i64 k∧At wr g1 ps∧At wr g2 ps∧Below w.heap.size w wr) (fun i _=>n-(intOf i).toNat)
 case atStart=>exact⟨0,by omega,rfl,h1,h2,Below.refl _ _⟩
 case round=>
  clear h1 h2
  obtain⟨k,hk,rfl,h1,h2,hb⟩:=hrel
  by_cases t:k<n
  ·obtain⟨e1,f1⟩:=h1 k (by omega)
   obtain⟨e2,f2⟩:=h2 k (by omega)
   have s:=hb.size
   have H1:=zh h1
   have H2:=zh h2
   have HB:=zh hb
   clear h1 h2 hb
   generalize (ps.getD k (0,0)).1=x at *
   generalize (ps.getD k (0,0)).2=y at *
   go_wp2_with fail
   go_region_held3 (fun w'=>w'.cell? ⟨g1,k*2,none⟩=some (.int .i64 x)∧w'.cell? ⟨g2,k*2,none⟩=some (.int .i64 x)∧w'.cell? ⟨g1,k*2+1,none⟩=some (.int .i64 y)∧w'.cell? ⟨g2,k*2+1,none⟩=some (.int .i64 y)) (go_keep)
    (first|(go_at_call 110;refine(eq1 _ _ _).mono ?_;rintro e w2 ⟨rfl,rfl⟩))
   all_goals(go_wp2;go_roundw)
   all_goals first
    |(have b2:=two_more wr (.cells #[.int .i64 x,.int .i64 y] 111) (.cells #[.int .i64 x,.int .i64 y] 111)
      exact⟨k+1,by omega,by go_num,(zu H1).below b2 (by omega),(zu H2).below b2 (by omega),next (zu HB) b2⟩)
    |(simp[intOf];omega)
  ·have HB:=zh hb
   clear h1 h2 hb
   go_wp2
   go_ret
   exact⟨rfl,zu HB⟩
end InstrHelp
namespace InstrMark
open Pairs
def marks(s:Int)(n:Nat):List (Int×Int):=(List.range n).map fun(i:Nat)=>(s+2*(i:Int),s+2*(i:Int)+1)
theorem marks_len(s:Int)(n:Nat):(marks s n).length=n:=by simp[marks]
theorem marks_getD(s:Int)(n i:Nat)(h:i<n):(marks s n).getD i (0,0)=(s+2*(i:Int),s+2*(i:Int)+1):=by simp[marks,List.getD,h]
def marked(s:Int)(ps:List (Int×Int))(n j:Nat):List (Int×Int):=(marks s n).take j++ps.drop j
theorem marked_zero(s:Int)(ps:List (Int×Int))(n:Nat):marked s ps n 0=ps:=by simp[marked]
theorem marked_all(s:Int)(ps:List (Int×Int))(n:Nat)(h:ps.length=n):marked s ps n n=marks s n:=by
 unfold marked
 rw[List.take_of_length_le (by rw[marks_len];exact Nat.le_refl _),List.drop_of_length_le (by omega),List.append_nil]
theorem marked_step(s:Int)(ps:List (Int×Int))(n j:Nat)(h:ps.length=n)(hj:j<n):((marked s ps n j).modify j fun p=>(s+2*(j:Int),p.2)).modify j (fun p=>(p.1,s+2*(j:Int)+1))=marked s ps n (j+1):=by
 unfold marked
 have l:=marks_len s n
 have g:=marks_getD s n j hj
 have l1:((marks s n).take j).length=j:=by simp;omega
 have l2:((marks s n).take (j+1)).length=j+1:=by simp;omega
 apply List.ext_getElem?
 intro i
 rw[List.getElem?_modify,List.getElem?_modify]
 by_cases e:j=i
 ·subst e
  rw[List.getElem?_append_right (by omega),List.getElem?_append_left (by omega),List.getElem?_take,if_pos (by omega),l1]
  have hg:(marks s n)[j]?=some (s+2*(j:Int),s+2*(j:Int)+1):=by
   rw[←g];simp[List.getD,l,hj]
  rw[hg]
  simp[List.getElem?_drop,h,hj]
 ·by_cases q:i<j
  ·rw[List.getElem?_append_left (by omega),List.getElem?_append_left (by omega),List.getElem?_take,List.getElem?_take,if_pos q,if_pos (by omega)]
   simp[e]
  ·rw[List.getElem?_append_right (by omega),List.getElem?_append_right (by omega),l1,l2]
   simp only[List.getElem?_drop]
   rw[show j+(i-j)=i by omega,show j+1+(i-(j+1))=i by omega]
   simp[e]
theorem markS(w:World)(base g n cap:Nat)(s:Int)(ps:List (Int×Int))(h20:n≤1048576)(s0:0≤s)(s1:s≤100000000)(ho:Own 111 w base g n cap ps):
  Calls Tryz.prog 57 #[.slice (some ⟨g,0,none⟩) n cap,.int .i64 s] w fun e w'=>e= .returned (.int .i64 (s+2*(n:Int)))∧Own 111 w' base g n cap (marks s n)∧w.grownBy w' (some g):=by
 have hl:=ho.len
 have ho':Own 111 w base g n cap (marked s ps n 0):=by rw[marked_zero];exact ho
 clear ho
 go_enter Tryz.func57,Tryz.ntmps57
 go_wp2
 go_loopw [1,5] (fun m i wr=>∃(k:Nat),k≤n∧i= .int .i64 k∧m= .int .i64 (s+2*(k:Int))∧Own 111 wr base g n cap (marked s ps n k)∧w.grownBy wr (some g)) (fun _ i _=>n-(intOf i).toNat)
 case atStart=>exact⟨0,by omega,rfl,by go_num,ho',World.grownBy.refl _ _⟩
 case round=>
  clear ho'
  obtain⟨k,hk,rfl,rfl,hown,hg⟩:=hrel
  by_cases t:k<n
  ·obtain⟨o1,q1⟩:=hown.set0 k (s+2*(k:Int))
   obtain⟨o2,q2⟩:=o1.set1 k (s+2*(k:Int)+1)
   obtain⟨hd0,hd1⟩:=hown.at k (by rw[Own.len hown];exact t)
   have hf0:=hown.free (k*2)
   have hf1:=hown.free (k*2+1)
   rw[marked_step s ps n k hl t] at o2
   have HO:=zh o2
   have HG:=zh (grown_trans (grown_trans hg q1) q2)
   clear hown hg o1 q1 o2 q2
   generalize ((marked s ps n k).getD k (0,0)).1=z0 at hd0
   generalize ((marked s ps n k).getD k (0,0)).2=z1 at hd1
   go_wp2
   go_roundw
   case rel=>exact⟨k+1,by omega,by go_num,by go_num,zu HO,zu HG⟩
   case measure=>simp[intOf];omega
  ·obtain rfl:k=n:=by omega
   rw[marked_all s ps k hl] at hown
   have HO:=zh hown
   have HG:=zh hg
   clear hown hg
   go_wp2
   go_ret
   exact⟨rfl,zu HO,zu HG⟩
theorem heldS(w:World)(g n cap:Nat)(s:Int)(h20:n≤1048576)(s0:0≤s)(s1:s≤100000000)(h:At w g (marks s n)):
  Calls Tryz.prog 62 #[.slice (some ⟨g,0,none⟩) n cap,.int .i64 s] w fun e w'=>e= .returned (.int .i64 (s+2*(n:Int)))∧w'=w:=by
 go_enter Tryz.func62,Tryz.ntmps62
 go_wp2
 go_loop [1,5] (fun m i=>∃(k:Nat),k≤n∧i= .int .i64 k∧m= .int .i64 (s+2*(k:Int))) (fun _ i=>n-(intOf i).toNat)
 case atStart=>exact⟨0,by omega,rfl,by go_num⟩
 case round=>
  obtain⟨k,hk,rfl,rfl⟩:=hrel
  by_cases t:k<n
  ·obtain⟨e0,e1⟩:=h k (by rw[marks_len];exact t)
   rw[marks_getD s n k t] at e0 e1
   clear h
   go_wp2
   go_round
   case rel=>exact⟨k+1,by omega,by go_num,by go_num⟩
   case measure=>simp[intOf];omega
  ·obtain rfl:k=n:=by omega
   clear h
   go_wp2
   go_ret
   exact⟨rfl,rfl⟩
theorem sz_yes(a:Option Addr)(len cap:Nat)(l:Int)(w:World)(h:(len:Int)≤l)(hl:l≤1048576):
  Calls Tryz.prog 24 #[.slice a len cap,.int .i64 l] w fun e w'=>e= .returned (.int .i64 (l-(len:Int)))∧w'=w:=by
 have h1:(0:Int)≤l-(len:Int):=by omega
 have h2:wrap64 (l-(len:Int))=l-(len:Int):=by rw[wrap64];omega
 go_enter Tryz.func24,Tryz.ntmps24
 go_wp2
 go_ret
 exact⟨rfl,rfl⟩
theorem sz_no(a:Option Addr)(len cap:Nat)(l:Int)(w:World)(h:¬(len:Int)≤l)(hl:l≤1048576)(h0:0≤l)(hm:len≤9223372036854775807):
  Calls Tryz.prog 24 #[.slice a len cap,.int .i64 l] w fun e w'=>e= .returned (.int .i64 (-1))∧w'=w:=by
 have h1:l-(len:Int)<0:=by omega
 have h2:wrap64 (l-(len:Int))=l-(len:Int):=by rw[wrap64];omega
 go_enter Tryz.func24,Tryz.ntmps24
 go_wp2
 go_ret
 exact⟨rfl,rfl⟩
end InstrMark
namespace BalHelp
open Bals Triples
theorem info2:(Tryz.prog.info? 119).map (fun i=>(i.zero,i.size,i.bytes))=some (some (.agg #[.int .i64 0,.int .i64 0,.int .i64 0]),3,24):=by kernel_rfl
theorem to1(w:World)(x y z:Int):Calls Tryz.prog 94 #[.agg #[.int .i64 x,.int .i64 y,.int .i64 z]] w fun e w'=>e= .returned (.agg #[.int .i64 x,.int .i64 y,.int .i64 z])∧Below w.heap.size w w':=by
 go_enter Tryz.func94,Tryz.ntmps94
 go_wp2
 refine bodyPost_ret (v:= .agg #[.int .i64 x,.int .i64 y,.int .i64 z]) (by simp[results,Tryz.results94,go_sem]) rfl ⟨rfl,?_⟩
 exact(((Below.refl _ _).alloc (Nat.le_refl _) _).alloc (by simp) _).alloc (by simp;omega) _
theorem made_triples(n:Nat):(madeCells (Value.agg #[.int .i64 0,.int .i64 0,.int .i64 0]).cells (n*3)).toList=flat3 (List.replicate n (0,0,0)):=by
 apply List.ext_getElem?
 intro j
 by_cases hj:j<n*3
 ·have hs:(Value.agg #[Value.int .i64 0,Value.int .i64 0,Value.int .i64 0]).cells= #[Value.int .i64 0,Value.int .i64 0,Value.int .i64 0]:=rfl
  rw[hs]
  obtain⟨f0,f1,f2⟩:=flat3_get (List.replicate n (0,0,0)) (j/3) (by simp;omega)
  have hg:(List.replicate n ((0:Int),(0:Int),(0:Int))).getD (j/3) (0,0,0)=(0,0,0):=by simp[List.getD,show j/3<n by omega]
  unfold el3 at f0 f1 f2
  rw[hg] at f0 f1 f2
  rcases(show j%3=0∨j%3=1∨j%3=2 by omega) with e|e|e
  ·rw[show j/3*3=j by omega] at f0
   rw[f0]
   simp[madeCells,hj,e]
  ·rw[show j/3*3+1=j by omega] at f1
   rw[f1]
   simp[madeCells,hj,e]
  ·rw[show j/3*3+2=j by omega] at f2
   rw[f2]
   simp[madeCells,hj,e]
 ·rw[List.getElem?_eq_none (by simp[madeCells];omega),List.getElem?_eq_none (by rw[flat3_len];simp;omega)]
def part(ps:List T3)(n k:Nat):List T3:=ps.take k++List.replicate (n-k) (0,0,0)
theorem part_zero(ps:List T3)(n:Nat):part ps n 0=List.replicate n (0,0,0):=by simp[part]
theorem part_all(ps:List T3)(n:Nat)(h:ps.length=n):part ps n n=ps:=by
 unfold part
 rw[←h];simp
theorem part_step(ps:List T3)(n k:Nat)(h:ps.length=n)(hk:k<n):(((part ps n k).modify k fun p=>((el3 ps k).1,p.2)).modify k (fun p=>(p.1,(el3 ps k).2.1,p.2.2))).modify k (fun p=>(p.1,p.2.1,(el3 ps k).2.2))=part ps n (k+1):=by
 subst h
 unfold part
 apply List.ext_getElem?
 intro j
 have l1:(ps.take k).length=k:=by simp;omega
 have l2:(ps.take (k+1)).length=k+1:=by simp;omega
 rw[List.getElem?_modify,List.getElem?_modify,List.getElem?_modify]
 by_cases e:k=j
 ·subst e
  rw[List.getElem?_append_right (by omega),List.getElem?_append_left (by omega),List.getElem?_take,if_pos (by omega),l1]
  simp[List.getD,hk,show 0<ps.length-k by omega]
 ·by_cases l:j<k
  ·rw[List.getElem?_append_left (by omega),List.getElem?_append_left (by omega),List.getElem?_take,List.getElem?_take,if_pos l,if_pos (by omega)]
   simp[e]
  ·rw[List.getElem?_append_right (by omega),List.getElem?_append_right (by omega),l1,l2]
   simp only[List.getElem?_replicate]
   by_cases m:j<ps.length
   ·rw[if_pos (by omega),if_pos (by omega)];simp[e]
   ·rw[if_neg (by omega),if_neg (by omega)];simp[e]
theorem toS(w:World)(a:Option Addr)(len cap:Nat)(ps:List T3)(hl:ps.length=len)(h20:len≤1048576)(hr:Reads3 w a ps):
  Calls Tryz.prog 39 #[.slice a len cap] w fun e w'=>e= .returned (.slice (some ⟨w.heap.size,0,none⟩) len len)∧Own3 119 w' w.heap.size w.heap.size len len ps∧Below w.heap.size w w':=by
 obtain⟨i0,hi,hz0,hz1,hz2⟩:=info_parts info2
 go_enter Tryz.func39,Tryz.ntmps39
 go_wp2_with (at_make;refine wpList_make_full _ rfl _ _ 32 rfl w.heap.size 119 i0 (.agg #[.int .i64 0,.int .i64 0,.int .i64 0]) 3 Tryz.underlying32 hi hz0 hz1 .i64 .i64 _ _ len rfl rfl rfl rfl (by rw[hz2];omega) (by unfold maxLen;omega) (Nat.le_refl _) ?_;intro w1 hown hgrow)
 rw[made_triples,←part_zero ps] at hown
 have hb:=grownBy_below hgrow
 have hown:Own3 119 w1 w.heap.size w.heap.size len len (part ps len 0):=hown
 clear hgrow
 go_loopw [4] (fun i wr=>∃(k:Nat),k≤len∧i= .int .i64 k∧Own3 119 wr w.heap.size w.heap.size len len (part ps len k)∧Below w.heap.size w wr) (fun i _=>len-(intOf i).toNat)
 case atStart=>exact⟨0,by omega,rfl,hown,hb⟩
 case round=>
  clear hown hb
  obtain⟨k,hk,rfl,hown,hb⟩:=hrel
  by_cases t:k<len
  ·rcases hr with hz|⟨b,off,rfl,hlt,hcell⟩
   ·omega
   have hc0:=(hb.cell (p:=⟨b,off+k*3,none⟩) hlt).trans (hcell k (by omega)).1
   have hc1:=(hb.cell (p:=⟨b,off+k*3+1,none⟩) hlt).trans (hcell k (by omega)).2.1
   have hc2:=(hb.cell (p:=⟨b,off+k*3+2,none⟩) hlt).trans (hcell k (by omega)).2.2
   clear hcell
   have HO:=zh hown
   have HB:=zh hb
   clear hown hb
   have PS:=zh (part_step ps len k hl t)
   generalize (el3 ps k).1=x at *
   generalize (el3 ps k).2.1=y at *
   generalize (el3 ps k).2.2=z at *
   go_wp2_with fail
   refine(to1 _ x y z).mono ?_
   rintro e w2 ⟨rfl,b2⟩
   have o2:=(zu HO).below b2 (zu HO).lt.2
   have hb2:=(zu HB).trans (b2.mono (zu HB).size)
   clear HO HB b2 hc0 hc1 hc2
   have hs:=o2.set0 k x
   have hs2:=hs.1.set1 k y
   have hs3:=hs2.1.set2 k z
   have hd:=o2.at k (by rw[o2.len];exact t)
   have hd0:=hd.1
   have hd1:=hd.2.1
   have hd2:=hd.2.2
   have hf0:=o2.free (k*3)
   have hf1:=o2.free (k*3+1)
   have hf2:=o2.free (k*3+2)
   have HS:=zh hs3.1
   have HB:=zh (((hb2.setCell (p:=⟨w.heap.size,k*3,none⟩) (Nat.le_refl _) (.int .i64 x)).setCell (p:=⟨w.heap.size,k*3+1,none⟩) (Nat.le_refl _) (.int .i64 y)).setCell (p:=⟨w.heap.size,k*3+2,none⟩) (Nat.le_refl _) (.int .i64 z))
   clear hs hs2 hs3 hd o2 hb2
   go_wp2
   go_roundw
   case rel=>
    have o:=zu HS
    rw[zu PS] at o
    exact⟨k+1,by omega,by go_num,o,zu HB⟩
   case measure=>simp[intOf];omega
  ·obtain rfl:k=len:=by omega
   rw[part_all ps k hl] at hown
   have HO:=zh hown
   have HB:=zh hb
   clear hown hb hr
   go_wp2
   go_ret
   exact⟨rfl,zu HO,zu HB⟩
theorem eq1(w:World)(x y z:Int):Calls Tryz.prog 111 #[.agg #[.int .i64 x,.int .i64 y,.int .i64 z],.agg #[.int .i64 x,.int .i64 y,.int .i64 z]] w fun e w'=>e= .returned (.bool true)∧w'=(w.alloc (.cells #[.int .i64 x,.int .i64 y,.int .i64 z] 119)).alloc (.cells #[.int .i64 x,.int .i64 y,.int .i64 z] 119):=by
 go_enter Tryz.func111,Tryz.ntmps111
 go_wp2
 go_ret
 exact⟨rfl,rfl⟩
theorem two_more(w:World)(o p:Obj):Below w.heap.size w ((w.alloc o).alloc p).drew:=(((Below.refl _ _).alloc (Nat.le_refl _) _).alloc (by simp) _).drew
theorem eqS(w:World)(g1 g2 n c1 c2:Nat)(ps:List T3)(hl:ps.length=n)(h20:n≤1048576)(l1:g1<w.heap.size)(l2:g2<w.heap.size)(h1:At3 w g1 ps)(h2:At3 w g2 ps):
  Calls Tryz.prog 53 #[.slice (some ⟨g1,0,none⟩) n c1,.slice (some ⟨g2,0,none⟩) n c2] w fun e w'=>e= .returned (.bool true)∧Below w.heap.size w w':=by
 go_enter Tryz.func53,Tryz.ntmps53
 go_wp2
 go_loopw [5] (fun i wr=>∃(k:Nat),k≤n∧i= .int .i64 k∧At3 wr g1 ps∧At3 wr g2 ps∧Below w.heap.size w wr) (fun i _=>n-(intOf i).toNat)
 case atStart=>exact⟨0,by omega,rfl,h1,h2,Below.refl _ _⟩
 case round=>
  clear h1 h2
  obtain⟨k,hk,rfl,h1,h2,hb⟩:=hrel
  by_cases t:k<n
  ·obtain⟨e1,f1,i1⟩:=h1 k (by omega)
   obtain⟨e2,f2,i2⟩:=h2 k (by omega)
   have s:=hb.size
   have H1:=zh h1
   have H2:=zh h2
   have HB:=zh hb
   clear h1 h2 hb
   generalize (el3 ps k).1=x at *
   generalize (el3 ps k).2.1=y at *
   generalize (el3 ps k).2.2=z at *
   go_wp2_with fail
   go_region_held3 (fun w'=>w'.cell? ⟨g1,k*3,none⟩=some (.int .i64 x)∧w'.cell? ⟨g2,k*3,none⟩=some (.int .i64 x)∧w'.cell? ⟨g1,k*3+1,none⟩=some (.int .i64 y)∧w'.cell? ⟨g2,k*3+1,none⟩=some (.int .i64 y)∧w'.cell? ⟨g1,k*3+2,none⟩=some (.int .i64 z)∧w'.cell? ⟨g2,k*3+2,none⟩=some (.int .i64 z)) (go_keep)
    (first|(go_at_call 111;refine(eq1 _ _ _ _).mono ?_;rintro e w2 ⟨rfl,rfl⟩))
   all_goals(go_wp2;go_roundw)
   all_goals first
    |(have b2:=two_more wr (.cells #[.int .i64 x,.int .i64 y,.int .i64 z] 119) (.cells #[.int .i64 x,.int .i64 y,.int .i64 z] 119)
      exact⟨k+1,by omega,by go_num,(zu H1).below b2 (by omega),(zu H2).below b2 (by omega),next (zu HB) b2⟩)
    |(simp[intOf];omega)
  ·have HB:=zh hb
   clear h1 h2 hb
   go_wp2
   go_ret
   exact⟨rfl,zu HB⟩
def marks(s:Int)(n:Nat):List T3:=(List.range n).map fun(i:Nat)=>(s+3*(i:Int),s+3*(i:Int)+1,s+3*(i:Int)+2)
theorem marks_len(s:Int)(n:Nat):(marks s n).length=n:=by simp[marks]
theorem marks_getD(s:Int)(n i:Nat)(h:i<n):el3 (marks s n) i=(s+3*(i:Int),s+3*(i:Int)+1,s+3*(i:Int)+2):=by simp[marks,List.getD,h]
def marked(s:Int)(ps:List T3)(n j:Nat):List T3:=(marks s n).take j++ps.drop j
theorem marked_zero(s:Int)(ps:List T3)(n:Nat):marked s ps n 0=ps:=by simp[marked]
theorem marked_all(s:Int)(ps:List T3)(n:Nat)(h:ps.length=n):marked s ps n n=marks s n:=by
 unfold marked
 rw[List.take_of_length_le (by rw[marks_len];exact Nat.le_refl _),List.drop_of_length_le (by omega),List.append_nil]
theorem marked_step(s:Int)(ps:List T3)(n j:Nat)(h:ps.length=n)(hj:j<n):(((marked s ps n j).modify j fun p=>(s+3*(j:Int),p.2)).modify j (fun p=>(p.1,s+3*(j:Int)+1,p.2.2))).modify j (fun p=>(p.1,p.2.1,s+3*(j:Int)+1+1))=marked s ps n (j+1):=by
 unfold marked
 have l:=marks_len s n
 have g:=marks_getD s n j hj
 have l1:((marks s n).take j).length=j:=by simp;omega
 have l2:((marks s n).take (j+1)).length=j+1:=by simp;omega
 apply List.ext_getElem?
 intro i
 rw[List.getElem?_modify,List.getElem?_modify,List.getElem?_modify]
 by_cases e:j=i
 ·subst e
  rw[List.getElem?_append_right (by omega),List.getElem?_append_left (by omega),List.getElem?_take,if_pos (by omega),l1]
  have hg:(marks s n)[j]?=some (s+3*(j:Int),s+3*(j:Int)+1,s+3*(j:Int)+2):=by
   rw[←g];simp[List.getD,l,hj]
  rw[hg]
  simp[List.getElem?_drop,h,hj]
  omega
 ·by_cases d:i<j
  ·rw[List.getElem?_append_left (by omega),List.getElem?_append_left (by omega),List.getElem?_take,List.getElem?_take,if_pos d,if_pos (by omega)]
   simp[e]
  ·rw[List.getElem?_append_right (by omega),List.getElem?_append_right (by omega),l1,l2]
   simp only[List.getElem?_drop]
   rw[show j+(i-j)=i by omega,show j+1+(i-(j+1))=i by omega]
   simp[e]
theorem markS(w:World)(base g n cap:Nat)(s:Int)(ps:List T3)(h20:n≤1048576)(s0:0≤s)(s1:s≤100000000)(ho:Own3 119 w base g n cap ps):
  Calls Tryz.prog 58 #[.slice (some ⟨g,0,none⟩) n cap,.int .i64 s] w fun e w'=>e= .returned (.int .i64 (s+3*(n:Int)))∧Own3 119 w' base g n cap (marks s n)∧w.grownBy w' (some g):=by
 have hl:=ho.len
 have ho':Own3 119 w base g n cap (marked s ps n 0):=by rw[marked_zero];exact ho
 clear ho
 go_enter Tryz.func58,Tryz.ntmps58
 go_wp2
 go_loopw [1,5] (fun m i wr=>∃(k:Nat),k≤n∧i= .int .i64 k∧m= .int .i64 (s+3*(k:Int))∧Own3 119 wr base g n cap (marked s ps n k)∧w.grownBy wr (some g)) (fun _ i _=>n-(intOf i).toNat)
 case atStart=>exact⟨0,by omega,rfl,by go_num,ho',World.grownBy.refl _ _⟩
 case round=>
  clear ho'
  obtain⟨k,hk,rfl,rfl,hown,hg⟩:=hrel
  by_cases t:k<n
  ·obtain⟨o1,q1⟩:=hown.set0 k (s+3*(k:Int))
   obtain⟨o2,q2⟩:=o1.set1 k (s+3*(k:Int)+1)
   obtain⟨o3,q3⟩:=o2.set2 k (s+3*(k:Int)+1+1)
   obtain⟨hd0,hd1,hd2⟩:=hown.at k (by rw[Own3.len hown];exact t)
   have hf0:=hown.free (k*3)
   have hf1:=hown.free (k*3+1)
   have hf2:=hown.free (k*3+2)
   rw[marked_step s ps n k hl t] at o3
   have HO:=zh o3
   have HG:=zh (grown_trans (grown_trans (grown_trans hg q1) q2) q3)
   clear hown hg o1 q1 o2 q2 o3 q3
   generalize (el3 (marked s ps n k) k).1=z0 at hd0
   generalize (el3 (marked s ps n k) k).2.1=z1 at hd1
   generalize (el3 (marked s ps n k) k).2.2=z2 at hd2
   have r1:IntKind.i64.wrap (s+3*(k:Int)+1)=s+3*(k:Int)+1:=by rw[IntKind.wrap_i64];omega
   have r2:IntKind.i64.wrap (s+3*(k:Int)+1+1)=s+3*(k:Int)+1+1:=by rw[IntKind.wrap_i64];omega
   have r3:IntKind.i64.wrap (s+3*(k:Int)+1+1+1)=s+3*(k:Int)+1+1+1:=by rw[IntKind.wrap_i64];omega
   go_wp2
   go_roundw
   case rel=>exact⟨k+1,by omega,by go_num,by go_num,zu HO,zu HG⟩
   case measure=>simp[intOf];omega
  ·obtain rfl:k=n:=by omega
   rw[marked_all s ps k hl] at hown
   have HO:=zh hown
   have HG:=zh hg
   clear hown hg
   go_wp2
   go_ret
   exact⟨rfl,zu HO,zu HG⟩
theorem sz_yes(a:Option Addr)(len cap:Nat)(l:Int)(w:World)(h:(len:Int)≤l)(hl:l≤1048576):
  Calls Tryz.prog 25 #[.slice a len cap,.int .i64 l] w fun e w'=>e= .returned (.int .i64 (l-(len:Int)))∧w'=w:=by
 have h1:(0:Int)≤l-(len:Int):=by omega
 have h2:wrap64 (l-(len:Int))=l-(len:Int):=by rw[wrap64];omega
 go_enter Tryz.func25,Tryz.ntmps25
 go_wp2
 go_ret
 exact⟨rfl,rfl⟩
theorem sz_no(a:Option Addr)(len cap:Nat)(l:Int)(w:World)(h:¬(len:Int)≤l)(hl:l≤1048576)(h0:0≤l)(hm:len≤9223372036854775807):
  Calls Tryz.prog 25 #[.slice a len cap,.int .i64 l] w fun e w'=>e= .returned (.int .i64 (-1))∧w'=w:=by
 have h1:l-(len:Int)<0:=by omega
 have h2:wrap64 (l-(len:Int))=l-(len:Int):=by rw[wrap64];omega
 go_enter Tryz.func25,Tryz.ntmps25
 go_wp2
 go_ret
 exact⟨rfl,rfl⟩
end BalHelp
namespace BalHeld
open Triples
open BalHelp (marks marks_len marks_getD)
theorem heldS(w:World)(g n cap:Nat)(s:Int)(h20:n≤1048576)(s0:0≤s)(s1:s≤100000000)(h:At3 w g (marks s n)):
  Calls Tryz.prog 63 #[.slice (some ⟨g,0,none⟩) n cap,.int .i64 s] w fun e w'=>e= .returned (.int .i64 (s+3*(n:Int)))∧w'=w:=by
 go_enter Tryz.func63,Tryz.ntmps63
 go_wp2
 go_loop [1,5] (fun m i=>∃(k:Nat),k≤n∧i= .int .i64 k∧m= .int .i64 (s+3*(k:Int))) (fun _ i=>n-(intOf i).toNat)
 case atStart=>exact⟨0,by omega,rfl,by go_num⟩
 case round=>
  obtain⟨k,hk,rfl,rfl⟩:=hrel
  by_cases t:k<n
  ·obtain⟨e0,e1,e2⟩:=h k (by rw[marks_len];exact t)
   rw[marks_getD s n k t] at e0 e1 e2
   have e2:w.cell? ⟨g,k*3+2,none⟩=some (.int .i64 (s+3*(k:Int)+1+1)):=by rw[e2];simp;omega
   clear h
   go_wp2
   go_round
   case rel=>exact⟨k+1,by omega,by go_num,by go_num⟩
   case measure=>simp[intOf];omega
  ·obtain rfl:k=n:=by omega
   clear h
   go_wp2
   go_ret
   exact⟨rfl,rfl⟩
end BalHeld
end Go.Proofs.YtnmeiiaipacplaaGreat
