/- Lemmas. -/
import Derived.Test.YtcjgepkdpkhljaaGreatQG5
import Derived.WalkSmall
open Go.ChangeShapes Go.WideShapes Go.ChangeAt Go.RowKit
set_option linter.unusedVariables false
set_option linter.unusedSimpArgs false
set_option maxRecDepth 100000
set_option maxHeartbeats 32000000
namespace Go.Proofs.YtcjgepkdpkhljaaGreat
namespace SOk5
open Tup5 Lots Quieter
theorem sIn(x lo hi:Int)(b:Bool)(w:World)(hb:Says b (lo≤x∧x≤hi)):
  Calls Tryz.prog 38 #[.int .i64 x,.int .i64 lo,.int .i64 hi] w fun e w'=>e= .returned (.bool b)∧w'=w:=by
 by_cases h1:lo≤x
 ·by_cases h2:x≤hi
  ·obtain rfl:b=true:=hb.of ⟨h1,h2⟩
   clear hb
   go_enter Tryz.func38,Tryz.ntmps38
   go_wp2
   go_ret
   exact⟨rfl,rfl⟩
  ·obtain rfl:b=false:=hb.not (fun r=>h2 r.2)
   clear hb
   go_enter Tryz.func38,Tryz.ntmps38
   go_wp2
   go_ret
   exact⟨rfl,rfl⟩
 ·obtain rfl:b=false:=hb.not (fun r=>h1 r.1)
  clear hb
  go_enter Tryz.func38,Tryz.ntmps38
  go_wp2
  go_ret
  exact⟨rfl,rfl⟩
theorem sNo(x:Int)(b:Bool)(w:World)(hb:Says b (NoOk x)):
  Calls Tryz.prog 74 #[.int .i64 x] w fun e w'=>e= .returned (.bool b)∧w'=w:=by
 go_enter Tryz.func74,Tryz.ntmps74
 go_wp2_with fail
 refine(sIn x 1 1000 b _ hb).mono ?_
 rintro e w' ⟨rfl,rfl⟩
 go_wp2
 go_ret
 exact⟨rfl,rfl⟩
theorem sAmt(x:Int)(b:Bool)(w:World)(hb:Says b (Amt x)):
  Calls Tryz.prog 86 #[.int .i64 x] w fun e w'=>e= .returned (.bool b)∧w'=w:=by
 go_enter Tryz.func86,Tryz.ntmps86
 go_wp2_with fail
 refine(sIn x (-1000000000000000) 1000000000000000 b _ hb).mono ?_
 rintro e w' ⟨rfl,rfl⟩
 go_wp2
 go_ret
 exact⟨rfl,rfl⟩
theorem sBefore(a i c j:Int)(b:Bool)(w:World)(hb:Says b (a<c∨(a=c∧i<j))):
  Calls Tryz.prog 92 #[.int .i64 a,.int .i64 i,.int .i64 c,.int .i64 j] w fun e w'=>e= .returned (.bool b)∧w'=w:=by
 by_cases h1:a<c
 ·obtain rfl:b=true:=hb.of (.inl h1)
  clear hb
  go_enter Tryz.func92,Tryz.ntmps92
  go_wp2
  go_ret
  exact⟨rfl,rfl⟩
 ·by_cases h2:a=c
  ·subst h2
   by_cases h3:i<j
   ·obtain rfl:b=true:=hb.of (.inr ⟨rfl,h3⟩)
    clear hb
    go_enter Tryz.func92,Tryz.ntmps92
    go_wp2
    go_ret
    exact⟨rfl,rfl⟩
   ·obtain rfl:b=false:=hb.not (fun r=>by omega)
    clear hb
    go_enter Tryz.func92,Tryz.ntmps92
    go_wp2
    go_ret
    exact⟨rfl,rfl⟩
  ·obtain rfl:b=false:=hb.not (fun r=>by omega)
   clear hb
   go_enter Tryz.func92,Tryz.ntmps92
   go_wp2
   go_ret
   exact⟨rfl,rfl⟩
theorem sSome(x lo:Int)(b:Bool)(w:World)(hb:Says b (lo≤x∧x≤1000000000000000)):
  Calls Tryz.prog 19 #[.int .i64 x,.int .i64 lo] w fun e w'=>e= .returned (.bool b)∧w'=w:=by
 go_enter Tryz.func19,Tryz.ntmps19
 go_wp2_with fail
 refine(sIn x lo 1000000000000000 b _ hb).mono ?_
 rintro e w' ⟨rfl,rfl⟩
 go_wp2
 go_ret
 exact⟨rfl,rfl⟩
theorem one_more(w:World)(o:Obj):Below w.heap.size w (w.alloc o):=(Below.refl _ _).alloc (Nat.le_refl _) _
theorem two_more(w:World)(o p:Obj):Below w.heap.size w ((w.alloc o).alloc p):=((Below.refl _ _).alloc (Nat.le_refl _) _).alloc (by simp) _
theorem sRight(x0 x1 x2 x3 x4:Int)(b:Bool)(w:World)(hb:Says b (One (x0,x1,x2,x3,x4))):
  Calls Tryz.prog 93 #[.agg #[.int .i64 x0,.int .i64 x1,.int .i64 x2,.int .i64 x3,.int .i64 x4]] w fun e w'=>e= .returned (.bool b)∧Below w.heap.size w w':=by
 obtain⟨b1,B1⟩:=says_of (NoOk x0)
 obtain⟨b2,B2⟩:=says_of (NoOk x1)
 obtain⟨b3,B3⟩:=says_of (1≤x2∧x2≤1000000000)
 obtain⟨b4,B4⟩:=says_of (1≤x3∧x3≤1000000000000000)
 obtain⟨b5,B5⟩:=says_of (0≤x4∧x4≤1000000000000000)
 have NB:=zh (one_more w (.cells #[.int .i64 x0,.int .i64 x1,.int .i64 x2,.int .i64 x3,.int .i64 x4] 188))
 cases b1
 ·obtain rfl:b=false:=hb.not (fun r=>B1.no r.1)
  clear hb
  go_enter Tryz.func93,Tryz.ntmps93
  go_wp2_with (first|(go_at_call 74;refine(sNo _ false _ B1).mono ?_;rintro e w1 ⟨rfl,rfl⟩))
  go_ret
  first|exact⟨rfl,zu NB⟩|exact⟨by rw[decide_eq_false (show ¬x2<y2 by omega)];rfl,zu NB⟩
 cases b2
 ·obtain rfl:b=false:=hb.not (fun r=>B2.no r.2.1)
  clear hb
  go_enter Tryz.func93,Tryz.ntmps93
  go_wp2_with (first|(go_at_call 74;refine(sNo _ true _ B1).mono ?_;rintro e w1 ⟨rfl,rfl⟩)|(go_at_call 74;refine(sNo _ false _ B2).mono ?_;rintro e w1 ⟨rfl,rfl⟩))
  go_ret
  first|exact⟨rfl,zu NB⟩|exact⟨by rw[decide_eq_false (show ¬x2<y2 by omega)];rfl,zu NB⟩
 cases b3
 ·obtain rfl:b=false:=hb.not (fun r=>B3.no r.2.2.1)
  clear hb
  go_enter Tryz.func93,Tryz.ntmps93
  go_wp2_with (first|(go_at_call 74;refine(sNo _ true _ B1).mono ?_;rintro e w1 ⟨rfl,rfl⟩)|(go_at_call 74;refine(sNo _ true _ B2).mono ?_;rintro e w1 ⟨rfl,rfl⟩)|(go_at_call 38;refine(sIn _ _ _ false _ B3).mono ?_;rintro e w1 ⟨rfl,rfl⟩))
  go_ret
  first|exact⟨rfl,zu NB⟩|exact⟨by rw[decide_eq_false (show ¬x2<y2 by omega)];rfl,zu NB⟩
 cases b4
 ·obtain rfl:b=false:=hb.not (fun r=>B4.no r.2.2.2.1)
  clear hb
  go_enter Tryz.func93,Tryz.ntmps93
  go_wp2_with (first|(go_at_call 74;refine(sNo _ true _ B1).mono ?_;rintro e w1 ⟨rfl,rfl⟩)|(go_at_call 74;refine(sNo _ true _ B2).mono ?_;rintro e w1 ⟨rfl,rfl⟩)|(go_at_call 38;refine(sIn _ _ _ true _ B3).mono ?_;rintro e w1 ⟨rfl,rfl⟩)|(go_at_call 19;refine(sSome _ _ false _ B4).mono ?_;rintro e w1 ⟨rfl,rfl⟩))
  go_ret
  first|exact⟨rfl,zu NB⟩|exact⟨by rw[decide_eq_false (show ¬x2<y2 by omega)];rfl,zu NB⟩
 obtain rfl:b5=b:=by
  cases b5
  ·exact(hb.not (fun r=>B5.no r.2.2.2.2)).symm
  ·exact(hb.of ⟨B1.yes,B2.yes,B3.yes,B4.yes,B5.yes⟩).symm
 clear hb
 go_enter Tryz.func93,Tryz.ntmps93
 go_wp2_with (first|(go_at_call 74;refine(sNo _ true _ B1).mono ?_;rintro e w1 ⟨rfl,rfl⟩)|(go_at_call 74;refine(sNo _ true _ B2).mono ?_;rintro e w1 ⟨rfl,rfl⟩)|(go_at_call 38;refine(sIn _ _ _ true _ B3).mono ?_;rintro e w1 ⟨rfl,rfl⟩)|(go_at_call 19;refine(sSome _ _ true _ B4).mono ?_;rintro e w1 ⟨rfl,rfl⟩)|(go_at_call 19;refine(sSome _ _ _ _ B5).mono ?_;rintro e w1 ⟨rfl,rfl⟩))
 go_ret
 first|exact⟨rfl,zu NB⟩|exact⟨by rw[decide_eq_false (show ¬x2<y2 by omega)];rfl,zu NB⟩
theorem sBef(x0 x1 x2 x3 x4 y0 y1 y2 y3 y4:Int)(b:Bool)(w:World)(hb:Says b (Bef (x0,x1,x2,x3,x4) (y0,y1,y2,y3,y4))):
  Calls Tryz.prog 94 #[.agg #[.int .i64 x0,.int .i64 x1,.int .i64 x2,.int .i64 x3,.int .i64 x4],.agg #[.int .i64 y0,.int .i64 y1,.int .i64 y2,.int .i64 y3,.int .i64 y4]] w fun e w'=>e= .returned (.bool b)∧Below w.heap.size w w':=by
 obtain⟨b1,B1⟩:=says_of (x0<y0∨(x0=y0∧x1<y1))
 have NB:=zh (two_more w (.cells #[.int .i64 x0,.int .i64 x1,.int .i64 x2,.int .i64 x3,.int .i64 x4] 188) (.cells #[.int .i64 y0,.int .i64 y1,.int .i64 y2,.int .i64 y3,.int .i64 y4] 188))
 have BB:b=true↔(x0<y0∨(x0=y0∧(x1<y1∨(x1=y1∧x2<y2)))):=hb
 clear hb
 cases b1
 ·have n1:=B1.no
  by_cases e0:x0=y0
  ·subst e0
   by_cases e1:x1=y1
   ·subst e1
    by_cases l2:x2<y2
    ·skip
     obtain rfl:b=true:=BB.2 (by omega)
     clear BB n1
     go_enter Tryz.func94,Tryz.ntmps94
     go_wp2_with (go_at_call 92;refine(sBefore _ _ _ _ false _ B1).mono ?_;rintro e w1 ⟨rfl,rfl⟩)
     go_ret
     first|exact⟨rfl,zu NB⟩|exact⟨by rw[decide_eq_false (show ¬x2<y2 by omega)];rfl,zu NB⟩
    ·skip
     obtain rfl:b=false:=by
      cases b
      ·rfl
      ·have:=BB.1 rfl
       omega
     clear BB n1
     go_enter Tryz.func94,Tryz.ntmps94
     go_wp2_with (go_at_call 92;refine(sBefore _ _ _ _ false _ B1).mono ?_;rintro e w1 ⟨rfl,rfl⟩)
     go_ret
     first|exact⟨rfl,zu NB⟩|exact⟨by rw[decide_eq_false (show ¬x2<y2 by omega)];rfl,zu NB⟩
   ·skip
    obtain rfl:b=false:=by
     cases b
     ·rfl
     ·have:=BB.1 rfl
      omega
    clear BB n1
    go_enter Tryz.func94,Tryz.ntmps94
    go_wp2_with (go_at_call 92;refine(sBefore _ _ _ _ false _ B1).mono ?_;rintro e w1 ⟨rfl,rfl⟩)
    go_ret
    first|exact⟨rfl,zu NB⟩|exact⟨by rw[decide_eq_false (show ¬x2<y2 by omega)];rfl,zu NB⟩
  ·skip
   obtain rfl:b=false:=by
    cases b
    ·rfl
    ·have:=BB.1 rfl
     omega
   clear BB n1
   go_enter Tryz.func94,Tryz.ntmps94
   go_wp2_with (go_at_call 92;refine(sBefore _ _ _ _ false _ B1).mono ?_;rintro e w1 ⟨rfl,rfl⟩)
   go_ret
   first|exact⟨rfl,zu NB⟩|exact⟨by rw[decide_eq_false (show ¬x2<y2 by omega)];rfl,zu NB⟩
 ·have n1:=B1.yes
  obtain rfl:b=true:=BB.2 (by omega)
  clear BB n1
  go_enter Tryz.func94,Tryz.ntmps94
  go_wp2_with (go_at_call 92;refine(sBefore _ _ _ _ true _ B1).mono ?_;rintro e w1 ⟨rfl,rfl⟩)
  go_ret
  first|exact⟨rfl,zu NB⟩|exact⟨by rw[decide_eq_false (show ¬x2<y2 by omega)];rfl,zu NB⟩
theorem sOk(w:World)(g n cap:Nat)(ps:List T5)(ok:Bool)(hl:ps.length=n)(h20:n≤1048576)(hg:g<w.heap.size)(h:At5 w g ps)(hok:Says ok (Right ps)):
  Calls Tryz.prog 68 #[.slice (some ⟨g,0,none⟩) n cap] w fun e w'=>e= .returned (.bool ok)∧Below w.heap.size w w':=by
 by_cases nn:(120:Int)<(n:Int)
 ·obtain rfl:ok=false:=hok.not (fun r=>by have:=r.1;omega)
  clear hok h
  go_enter Tryz.func68,Tryz.ntmps68
  go_wp2
  go_ret
  exact⟨rfl,Below.refl _ _⟩
 have H:=zh h
 clear h
 go_enter Tryz.func68,Tryz.ntmps68
 go_wp2
 go_loopw [3,4,5,6] (fun q c i _ wr=>∃(k:Nat) (sq sc:Int),k≤n∧i= .int .i64 k∧q= .int .i64 sq∧c= .int .i64 sc∧0≤sq∧sq≤1000000000000000∧0≤sc∧sc≤1000000000000000∧Below w.heap.size w wr∧Hid (∀i,i<k→RowOk ps i∧(run ps i).1≤1000000000000000∧(run ps i).2≤1000000000000000)∧Hid (0<k→(sq,sc)=run ps (k-1))) (fun _ _ i _ _=>n-(intOf i).toNat)
 case atStart=>exact⟨0,0,0,by omega,rfl,rfl,rfl,by omega,by omega,by omega,by omega,Below.refl _ _,zh (fun i hi=>absurd hi (by omega)),zh (fun h0=>absurd h0 (by omega))⟩
 case round=>
  obtain⟨k,sq,sc,hk,rfl,rfl,rfl,sq0,sq1,sc0,sc1,hb,HG,HS⟩:=hrel
  by_cases t:k<n
  ·have hA:=(zu H).below hb hg
   obtain⟨e0,e1,e2,e3,e4⟩:=hA k (by omega)
   have ED:0<k→Holds5 wr g ((k-1)*5) (el5 ps (k-1)):=fun k0=>hA (k-1) (by omega)
   have gs:g<wr.heap.size:=Nat.lt_of_lt_of_le hg hb.size
   have gne:g≠wr.heap.size:=by omega
   clear hA
   have HB:=zh hb
   clear hb
   have ROW:=zh (show RowOk ps k↔One ((el5 ps k).1,(el5 ps k).2.1,(el5 ps k).2.2.1,(el5 ps k).2.2.2.1,(el5 ps k).2.2.2.2)∧(0<k→Bef ((el5 ps (k-1)).1,(el5 ps (k-1)).2.1,(el5 ps (k-1)).2.2.1,(el5 ps (k-1)).2.2.2.1,(el5 ps (k-1)).2.2.2.2) ((el5 ps k).1,(el5 ps k).2.1,(el5 ps k).2.2.1,(el5 ps k).2.2.2.1,(el5 ps k).2.2.2.2)) from Iff.rfl)
   have RUN:=zh (show RowOk ps k→run ps k=(if k=0∨(el5 ps k).1≠(el5 ps (k-1)).1∨(el5 ps k).2.1≠(el5 ps (k-1)).2.1 then((el5 ps k).2.2.2.1,(el5 ps k).2.2.2.2) else(sq+(el5 ps k).2.2.2.1,sc+(el5 ps k).2.2.2.2)) from fun hr=>by
    rw[run_next (by omega) (fun i hi=>by
     by_cases e:i=k
     ·subst e;exact hr
     ·exact((zu HG) i (by omega)).1)]
    by_cases c:k=0∨(el5 ps k).1≠(el5 ps (k-1)).1∨(el5 ps k).2.1≠(el5 ps (k-1)).2.1
    ·rw[if_pos c,if_pos c]
    ·rw[if_neg c,if_neg c,←(zu HS) (by omega)])
   have BAD:=zh (show ¬(RowOk ps k∧(run ps k).1≤1000000000000000∧(run ps k).2≤1000000000000000)→ok=false from fun hr=>hok.not (fun r=>hr ((right_iff ps (by omega)).1 r k (by omega))))
   have GOOD:=zh (show RowOk ps k∧(run ps k).1≤1000000000000000∧(run ps k).2≤1000000000000000→∀i,i<k+1→RowOk ps i∧(run ps i).1≤1000000000000000∧(run ps i).2≤1000000000000000 from fun hr i hi=>by
    by_cases e:i=k
    ·subst e;exact hr
    ·exact(zu HG) i (by omega))
   obtain⟨rq,rc,RQ⟩:∃rq rc,Hid (run ps k=(rq,rc)):=⟨_,_,rfl⟩
   rw[zu RQ] at RUN BAD GOOD
   clear HG HS
   generalize (el5 ps k).1=x0 at *
   generalize (el5 ps k).2.1=x1 at *
   generalize (el5 ps k).2.2.1=x2 at *
   generalize (el5 ps k).2.2.2.1=x3 at *
   generalize (el5 ps k).2.2.2.2=x4 at *
   obtain⟨u0,u1,u2,u3,u4,EU⟩:∃u0 u1 u2 u3 u4,el5 ps (k-1)=(u0,u1,u2,u3,u4):=⟨_,_,_,_,_,rfl⟩
   rw[EU] at ROW RUN ED
   clear EU
   obtain⟨b1,B1⟩:=says_of (One (x0,x1,x2,x3,x4))
   have ONE:=zh (one_more wr (.cells #[.int .i64 x0,.int .i64 x1,.int .i64 x2,.int .i64 x3,.int .i64 x4] 188))
   have SL:wr.heap.size<(wr.alloc (.cells #[.int .i64 x0,.int .i64 x1,.int .i64 x2,.int .i64 x3,.int .i64 x4] 188)).heap.size:=by simp
   obtain⟨f0,f1,f2,f3,f4⟩:Holds5 (wr.alloc (.cells #[.int .i64 x0,.int .i64 x1,.int .i64 x2,.int .i64 x3,.int .i64 x4] 188)) wr.heap.size 0 (x0,x1,x2,x3,x4):=by unfold Holds5;simp
   have ED1:=zh (show 0<k→Holds5 (wr.alloc (.cells #[.int .i64 x0,.int .i64 x1,.int .i64 x2,.int .i64 x3,.int .i64 x4] 188)) g ((k-1)*5) (u0,u1,u2,u3,u4) from fun k0=>(ED k0).below (zu ONE) gs)
   have HB1:=zh (next (zu HB) (zu ONE))
   clear ED ONE
   go_wp2_with fail
   generalize wr.alloc (.cells #[.int .i64 x0,.int .i64 x1,.int .i64 x2,.int .i64 x3,.int .i64 x4] 188)=u at *
   generalize wr.heap.size=yb at *
   have C0:∀n:Near u,n.u.cell? ⟨yb,0,none⟩=some (.int .i64 x0):=fun n=>(n.b.cell (p:=⟨yb,0,none⟩) SL).trans f0
   have C1:∀n:Near u,n.u.cell? ⟨yb,1,none⟩=some (.int .i64 x1):=fun n=>(n.b.cell (p:=⟨yb,1,none⟩) SL).trans f1
   have C2:∀n:Near u,n.u.cell? ⟨yb,2,none⟩=some (.int .i64 x2):=fun n=>(n.b.cell (p:=⟨yb,2,none⟩) SL).trans f2
   have C3:∀n:Near u,n.u.cell? ⟨yb,3,none⟩=some (.int .i64 x3):=fun n=>(n.b.cell (p:=⟨yb,3,none⟩) SL).trans f3
   have C4:∀n:Near u,n.u.cell? ⟨yb,4,none⟩=some (.int .i64 x4):=fun n=>(n.b.cell (p:=⟨yb,4,none⟩) SL).trans f4
   have near:=near_is u
   cases b1
   ·have OKF:=zh ((zu BAD) (fun hr=>B1.no ((zu ROW).1 hr.1).1))
    clear BAD GOOD ROW RUN ED1
    refine quiet_near (by kernel_rfl) (by kernel_rfl) ?_
    repeat(go_big_quiet_step (first
     |(go_at_call 93
       rename_i nn
       refine(sRight x0 x1 x2 x3 x4 false nn.u B1).mono ?_
       rintro e u6 ⟨rfl,b6⟩
       exact⟨rfl,⟨u6,next nn.b b6⟩,rfl⟩)))
    refine wpQuiet_nil ?_
    rintro u9 ⟨⟨_,b9⟩,rfl⟩
    go_wp2
    go_ret
    exact⟨by rw[zu OKF];rfl,next (zu HB1) b9⟩
   have o:=B1.yes
   obtain⟨_,_,_,⟨x3l,x3h⟩,x4l,x4h⟩:NoOk x0∧NoOk x1∧(1≤x2∧x2≤1000000000)∧(1≤x3∧x3≤1000000000000000)∧(0≤x4∧x4≤1000000000000000):=o
   by_cases k0:k=0
   ·subst k0
    have RK:=zh ((zu ROW).2 ⟨B1.yes,fun h0=>absurd h0 (by omega)⟩)
    clear ED1
    refine quiet_near (by kernel_rfl) (by kernel_rfl) ?_
    repeat(go_big_quiet_step (first
     |(go_at_call 93
       rename_i nn
       refine(sRight x0 x1 x2 x3 x4 true nn.u B1).mono ?_
       rintro e u6 ⟨rfl,b6⟩
       exact⟨rfl,⟨u6,next nn.b b6⟩,rfl⟩)))
    refine wpQuiet_nil ?_
    rintro u9 ⟨⟨_,b9⟩,rfl⟩
    have f3:u9.cell? ⟨yb,3,none⟩=some (.int .i64 x3):=(b9.cell (p:=⟨yb,3,none⟩) SL).trans f3
    have f4:u9.cell? ⟨yb,4,none⟩=some (.int .i64 x4):=(b9.cell (p:=⟨yb,4,none⟩) SL).trans f4
    have BB:=zh (next (zu HB1) b9)
    clear b9 C0 C1 C2 C3 C4 near
    obtain⟨b3,B3⟩:=says_of (Amt (x3))
    obtain⟨b4,B4⟩:=says_of (Amt (x4))
    have RE:=zh (show(rq,rc)=(x3,x4) from by rw[(zu RUN) (zu RK),if_pos (.inl rfl)])
    go_wp2_with fail
    go_quiet (fail)
    go_wp2_with fail
    refine(sAmt (x3) b3 _ B3).mono ?_
    rintro e w3 ⟨rfl,rfl⟩
    cases b3
    ·have OKF:=zh ((zu BAD) (fun hr=>B3.no (by have e:=congrArg Prod.fst (zu RE);have:=hr.2.1;unfold Amt;simp only at e;omega)))
     clear BAD GOOD ROW RUN RE
     go_wp2
     go_ret
     exact⟨by rw[zu OKF];rfl,below_drewN (zu BB) _⟩
    go_wp2_with fail
    refine(sAmt (x4) b4 _ B4).mono ?_
    rintro e w4 ⟨rfl,rfl⟩
    cases b4
    ·have OKF:=zh ((zu BAD) (fun hr=>B4.no (by have e:=congrArg Prod.snd (zu RE);have:=hr.2.2;unfold Amt;simp only at e;omega)))
     clear BAD GOOD ROW RUN RE
     go_wp2
     go_ret
     exact⟨by rw[zu OKF];rfl,below_drewN (zu BB) _⟩
    have GO:=zh ((zu GOOD) ⟨zu RK,by have e:=congrArg Prod.fst (zu RE);have y:=B3.yes;unfold Amt at y;simp only at e;omega,by have e:=congrArg Prod.snd (zu RE);have y:=B4.yes;unfold Amt at y;simp only at e;omega⟩)
    have y3:=B3.yes.2
    have y4:=B4.yes.2
    clear BAD GOOD ROW RUN HB
    go_wp2
    go_roundw
    case rel=>exact⟨0+1,x3,x4,by omega,by go_num,rfl,rfl,by omega,by omega,by omega,by omega,below_drewN (zu BB) _,GO,zh (fun _=>by rw[show 0+1-1=0 by omega,zu RQ];exact(zu RE).symm)⟩
    case measure=>simp[intOf];omega
   ·have d:=(zu ED1) (by omega)
    have gu:g<u.heap.size:=by omega
    have D0:∀n:Near u,n.u.cell? ⟨g,(k-1)*5,none⟩=some (.int .i64 u0):=fun n=>(n.b.cell (p:=⟨g,(k-1)*5,none⟩) gu).trans d.1
    have D1:∀n:Near u,n.u.cell? ⟨g,(k-1)*5+1,none⟩=some (.int .i64 u1):=fun n=>(n.b.cell (p:=⟨g,(k-1)*5+1,none⟩) gu).trans d.2.1
    have D2:∀n:Near u,n.u.cell? ⟨g,(k-1)*5+2,none⟩=some (.int .i64 u2):=fun n=>(n.b.cell (p:=⟨g,(k-1)*5+2,none⟩) gu).trans d.2.2.1
    have D3:∀n:Near u,n.u.cell? ⟨g,(k-1)*5+3,none⟩=some (.int .i64 u3):=fun n=>(n.b.cell (p:=⟨g,(k-1)*5+3,none⟩) gu).trans d.2.2.2.1
    have D4:∀n:Near u,n.u.cell? ⟨g,(k-1)*5+4,none⟩=some (.int .i64 u4):=fun n=>(n.b.cell (p:=⟨g,(k-1)*5+4,none⟩) gu).trans d.2.2.2.2
    have HD:=zh d
    clear d ED1
    have kp:0<k:=by omega
    have kz:((k:Int)==0)=false:=by rw[beq_eq_false_iff_ne];omega
    have k1:(0:Int)<(k:Int):=by omega
    have k2:(0:Int)≤(k:Int) -1:=by omega
    have k3:((k:Int) -1).toNat=k-1:=by omega
    have k4:IntKind.i64.wrap ((k:Int) -1)=(k:Int) -1:=by rw[IntKind.wrap_i64];omega
    have k5:(k:Int) -1<(n:Int):=by omega
    obtain⟨b2,B2⟩:=says_of (Bef (u0,u1,u2,u3,u4) (x0,x1,x2,x3,x4))
    cases b2
    ·have OKF:=zh ((zu BAD) (fun hr=>B2.no (((zu ROW).1 hr.1).2 (by omega))))
     clear BAD GOOD ROW RUN
     refine quiet_near (by kernel_rfl) (by kernel_rfl) ?_
     repeat(go_big_quiet_step (first
      |(go_at_call 93
        rename_i nn
        refine(sRight x0 x1 x2 x3 x4 true nn.u B1).mono ?_
        rintro e u6 ⟨rfl,b6⟩
        exact⟨rfl,⟨u6,next nn.b b6⟩,rfl⟩)
      |(go_at_call 94
        rename_i nn
        refine(sBef u0 u1 u2 u3 u4 x0 x1 x2 x3 x4 false nn.u B2).mono ?_
        rintro e u6 ⟨rfl,b6⟩
        exact⟨rfl,⟨u6,next nn.b b6⟩,rfl⟩)))
     refine wpQuiet_nil ?_
     rintro u9 ⟨⟨_,b9⟩,rfl⟩
     go_wp2
     go_ret
     exact⟨by rw[zu OKF];rfl,next (zu HB1) b9⟩
    have RK:=zh ((zu ROW).2 ⟨B1.yes,fun _=>B2.yes⟩)
    refine quiet_near (by kernel_rfl) (by kernel_rfl) ?_
    repeat(go_big_quiet_step (first
     |(go_at_call 93
       rename_i nn
       refine(sRight x0 x1 x2 x3 x4 true nn.u B1).mono ?_
       rintro e u6 ⟨rfl,b6⟩
       exact⟨rfl,⟨u6,next nn.b b6⟩,rfl⟩)
     |(go_at_call 94
       rename_i nn
       refine(sBef u0 u1 u2 u3 u4 x0 x1 x2 x3 x4 true nn.u B2).mono ?_
       rintro e u6 ⟨rfl,b6⟩
       exact⟨rfl,⟨u6,next nn.b b6⟩,rfl⟩)))
    refine wpQuiet_nil ?_
    rintro u9 ⟨⟨_,b9⟩,rfl⟩
    have f0:u9.cell? ⟨yb,0,none⟩=some (.int .i64 x0):=(b9.cell (p:=⟨yb,0,none⟩) SL).trans f0
    have f1:u9.cell? ⟨yb,1,none⟩=some (.int .i64 x1):=(b9.cell (p:=⟨yb,1,none⟩) SL).trans f1
    have f3:u9.cell? ⟨yb,3,none⟩=some (.int .i64 x3):=(b9.cell (p:=⟨yb,3,none⟩) SL).trans f3
    have f4:u9.cell? ⟨yb,4,none⟩=some (.int .i64 x4):=(b9.cell (p:=⟨yb,4,none⟩) SL).trans f4
    have d0:u9.cell? ⟨g,(k-1)*5,none⟩=some (.int .i64 u0):=(b9.cell (p:=⟨g,(k-1)*5,none⟩) gu).trans (zu HD).1
    have d1:u9.cell? ⟨g,(k-1)*5+1,none⟩=some (.int .i64 u1):=(b9.cell (p:=⟨g,(k-1)*5+1,none⟩) gu).trans (zu HD).2.1
    have BB:=zh (next (zu HB1) b9)
    clear b9 C0 C1 C2 C3 C4 D0 D1 D2 D3 D4 near
    by_cases c0:x0=u0
    ·by_cases c1:x1=u1
     ·subst c0 c1
      obtain⟨b3,B3⟩:=says_of (Amt (sq+x3))
      obtain⟨b4,B4⟩:=says_of (Amt (sc+x4))
      have RE:=zh (show(rq,rc)=(sq+x3,sc+x4) from by rw[(zu RUN) (zu RK),if_neg (by omega)])
      go_wp2_with fail
      go_quiet (fail)
      go_wp2_with fail
      refine(sAmt (sq+x3) b3 _ B3).mono ?_
      rintro e w3 ⟨rfl,rfl⟩
      cases b3
      ·have OKF:=zh ((zu BAD) (fun hr=>B3.no (by have e:=congrArg Prod.fst (zu RE);have:=hr.2.1;unfold Amt;simp only at e;omega)))
       clear BAD GOOD ROW RUN RE
       go_wp2
       go_ret
       exact⟨by rw[zu OKF];rfl,below_drewN (zu BB) _⟩
      go_wp2_with fail
      refine(sAmt (sc+x4) b4 _ B4).mono ?_
      rintro e w4 ⟨rfl,rfl⟩
      cases b4
      ·have OKF:=zh ((zu BAD) (fun hr=>B4.no (by have e:=congrArg Prod.snd (zu RE);have:=hr.2.2;unfold Amt;simp only at e;omega)))
       clear BAD GOOD ROW RUN RE
       go_wp2
       go_ret
       exact⟨by rw[zu OKF];rfl,below_drewN (zu BB) _⟩
      have GO:=zh ((zu GOOD) ⟨zu RK,by have e:=congrArg Prod.fst (zu RE);have y:=B3.yes;unfold Amt at y;simp only at e;omega,by have e:=congrArg Prod.snd (zu RE);have y:=B4.yes;unfold Amt at y;simp only at e;omega⟩)
      have y3:=B3.yes.2
      have y4:=B4.yes.2
      clear BAD GOOD ROW RUN HB
      go_wp2
      go_roundw
      case rel=>exact⟨k+1,sq+x3,sc+x4,by omega,by go_num,rfl,rfl,by omega,by omega,by omega,by omega,below_drewN (zu BB) _,GO,zh (fun _=>by rw[show k+1-1=k by omega,zu RQ];exact(zu RE).symm)⟩
      case measure=>simp[intOf];omega
     ·have q1:(x1 !=u1)=true:=by simpa using c1
      obtain⟨b3,B3⟩:=says_of (Amt (x3))
      obtain⟨b4,B4⟩:=says_of (Amt (x4))
      have RE:=zh (show(rq,rc)=(x3,x4) from by rw[(zu RUN) (zu RK),if_pos (.inr (.inr c1))])
      go_wp2_with fail
      go_quiet (fail)
      go_wp2_with fail
      refine(sAmt (x3) b3 _ B3).mono ?_
      rintro e w3 ⟨rfl,rfl⟩
      cases b3
      ·have OKF:=zh ((zu BAD) (fun hr=>B3.no (by have e:=congrArg Prod.fst (zu RE);have:=hr.2.1;unfold Amt;simp only at e;omega)))
       clear BAD GOOD ROW RUN RE
       go_wp2
       go_ret
       exact⟨by rw[zu OKF];rfl,below_drewN (zu BB) _⟩
      go_wp2_with fail
      refine(sAmt (x4) b4 _ B4).mono ?_
      rintro e w4 ⟨rfl,rfl⟩
      cases b4
      ·have OKF:=zh ((zu BAD) (fun hr=>B4.no (by have e:=congrArg Prod.snd (zu RE);have:=hr.2.2;unfold Amt;simp only at e;omega)))
       clear BAD GOOD ROW RUN RE
       go_wp2
       go_ret
       exact⟨by rw[zu OKF];rfl,below_drewN (zu BB) _⟩
      have GO:=zh ((zu GOOD) ⟨zu RK,by have e:=congrArg Prod.fst (zu RE);have y:=B3.yes;unfold Amt at y;simp only at e;omega,by have e:=congrArg Prod.snd (zu RE);have y:=B4.yes;unfold Amt at y;simp only at e;omega⟩)
      have y3:=B3.yes.2
      have y4:=B4.yes.2
      clear BAD GOOD ROW RUN HB
      go_wp2
      go_roundw
      case rel=>exact⟨k+1,x3,x4,by omega,by go_num,rfl,rfl,by omega,by omega,by omega,by omega,below_drewN (zu BB) _,GO,zh (fun _=>by rw[show k+1-1=k by omega,zu RQ];exact(zu RE).symm)⟩
      case measure=>simp[intOf];omega
    ·have q1:(x0 !=u0)=true:=by simpa using c0
     obtain⟨b3,B3⟩:=says_of (Amt (x3))
     obtain⟨b4,B4⟩:=says_of (Amt (x4))
     have RE:=zh (show(rq,rc)=(x3,x4) from by rw[(zu RUN) (zu RK),if_pos (.inr (.inl c0))])
     go_wp2_with fail
     go_quiet (fail)
     go_wp2_with fail
     refine(sAmt (x3) b3 _ B3).mono ?_
     rintro e w3 ⟨rfl,rfl⟩
     cases b3
     ·have OKF:=zh ((zu BAD) (fun hr=>B3.no (by have e:=congrArg Prod.fst (zu RE);have:=hr.2.1;unfold Amt;simp only at e;omega)))
      clear BAD GOOD ROW RUN RE
      go_wp2
      go_ret
      exact⟨by rw[zu OKF];rfl,below_drewN (zu BB) _⟩
     go_wp2_with fail
     refine(sAmt (x4) b4 _ B4).mono ?_
     rintro e w4 ⟨rfl,rfl⟩
     cases b4
     ·have OKF:=zh ((zu BAD) (fun hr=>B4.no (by have e:=congrArg Prod.snd (zu RE);have:=hr.2.2;unfold Amt;simp only at e;omega)))
      clear BAD GOOD ROW RUN RE
      go_wp2
      go_ret
      exact⟨by rw[zu OKF];rfl,below_drewN (zu BB) _⟩
     have GO:=zh ((zu GOOD) ⟨zu RK,by have e:=congrArg Prod.fst (zu RE);have y:=B3.yes;unfold Amt at y;simp only at e;omega,by have e:=congrArg Prod.snd (zu RE);have y:=B4.yes;unfold Amt at y;simp only at e;omega⟩)
     have y3:=B3.yes.2
     have y4:=B4.yes.2
     clear BAD GOOD ROW RUN HB
     go_wp2
     go_roundw
     case rel=>exact⟨k+1,x3,x4,by omega,by go_num,rfl,rfl,by omega,by omega,by omega,by omega,below_drewN (zu BB) _,GO,zh (fun _=>by rw[show k+1-1=k by omega,zu RQ];exact(zu RE).symm)⟩
     case measure=>simp[intOf];omega
  ·obtain rfl:k=n:=by omega
   obtain rfl:ok=true:=hok.of ((right_iff ps (by omega)).2 (by rw[hl];exact zu HG))
   have HB:=zh hb
   clear hb hok
   go_wp2
   go_ret
   exact⟨rfl,zu HB⟩
end SOk5
namespace SOk3
open Bals Triples
theorem sIn(x lo hi:Int)(b:Bool)(w:World)(hb:Says b (lo≤x∧x≤hi)):
  Calls Tryz.prog 38 #[.int .i64 x,.int .i64 lo,.int .i64 hi] w fun e w'=>e= .returned (.bool b)∧w'=w:=by
 by_cases h1:lo≤x
 ·by_cases h2:x≤hi
  ·obtain rfl:b=true:=hb.of ⟨h1,h2⟩
   clear hb
   go_enter Tryz.func38,Tryz.ntmps38
   go_wp2
   go_ret
   exact⟨rfl,rfl⟩
  ·obtain rfl:b=false:=hb.not (fun r=>h2 r.2)
   clear hb
   go_enter Tryz.func38,Tryz.ntmps38
   go_wp2
   go_ret
   exact⟨rfl,rfl⟩
 ·obtain rfl:b=false:=hb.not (fun r=>h1 r.1)
  clear hb
  go_enter Tryz.func38,Tryz.ntmps38
  go_wp2
  go_ret
  exact⟨rfl,rfl⟩
theorem sNo(x:Int)(b:Bool)(w:World)(hb:Says b (NoOk x)):
  Calls Tryz.prog 74 #[.int .i64 x] w fun e w'=>e= .returned (.bool b)∧w'=w:=by
 go_enter Tryz.func74,Tryz.ntmps74
 go_wp2_with fail
 refine(sIn x 1 1000 b _ hb).mono ?_
 rintro e w' ⟨rfl,rfl⟩
 go_wp2
 go_ret
 exact⟨rfl,rfl⟩
theorem sAmt(x:Int)(b:Bool)(w:World)(hb:Says b (Amt x)):
  Calls Tryz.prog 86 #[.int .i64 x] w fun e w'=>e= .returned (.bool b)∧w'=w:=by
 go_enter Tryz.func86,Tryz.ntmps86
 go_wp2_with fail
 refine(sIn x (-1000000000000000) 1000000000000000 b _ hb).mono ?_
 rintro e w' ⟨rfl,rfl⟩
 go_wp2
 go_ret
 exact⟨rfl,rfl⟩
theorem sBefore(a i c j:Int)(b:Bool)(w:World)(hb:Says b (a<c∨(a=c∧i<j))):
  Calls Tryz.prog 92 #[.int .i64 a,.int .i64 i,.int .i64 c,.int .i64 j] w fun e w'=>e= .returned (.bool b)∧w'=w:=by
 by_cases h1:a<c
 ·obtain rfl:b=true:=hb.of (.inl h1)
  clear hb
  go_enter Tryz.func92,Tryz.ntmps92
  go_wp2
  go_ret
  exact⟨rfl,rfl⟩
 ·by_cases h2:a=c
  ·subst h2
   by_cases h3:i<j
   ·obtain rfl:b=true:=hb.of (.inr ⟨rfl,h3⟩)
    clear hb
    go_enter Tryz.func92,Tryz.ntmps92
    go_wp2
    go_ret
    exact⟨rfl,rfl⟩
   ·obtain rfl:b=false:=hb.not (fun r=>by omega)
    clear hb
    go_enter Tryz.func92,Tryz.ntmps92
    go_wp2
    go_ret
    exact⟨rfl,rfl⟩
  ·obtain rfl:b=false:=hb.not (fun r=>by omega)
   clear hb
   go_enter Tryz.func92,Tryz.ntmps92
   go_wp2
   go_ret
   exact⟨rfl,rfl⟩
theorem one_more(w:World)(o:Obj):Below w.heap.size w (w.alloc o):=(Below.refl _ _).alloc (Nat.le_refl _) _
theorem sOk(w:World)(g n cap:Nat)(ps:List T3)(ok:Bool)(hl:ps.length=n)(h20:n≤1048576)(hg:g<w.heap.size)(h:At3 w g ps)(hok:Says ok (Right ps)):
  Calls Tryz.prog 67 #[.slice (some ⟨g,0,none⟩) n cap] w fun e w'=>e= .returned (.bool ok)∧Below w.heap.size w w':=by
 by_cases nn:(160:Int)<(n:Int)
 ·obtain rfl:ok=false:=hok.not (fun r=>by have:=r.1;omega)
  clear hok h
  go_enter Tryz.func67,Tryz.ntmps67
  go_wp2
  go_ret
  exact⟨rfl,Below.refl _ _⟩
 have H:=zh h
 clear h
 go_enter Tryz.func67,Tryz.ntmps67
 go_wp2
 go_loopw [3,4] (fun i _ wr=>∃(k:Nat),k≤n∧i= .int .i64 k∧Below w.heap.size w wr∧Hid (∀i,i<k→RowOk ps i)) (fun i _ _=>n-(intOf i).toNat)
 case atStart=>exact⟨0,by omega,rfl,Below.refl _ _,zh (fun i hi=>absurd hi (by omega))⟩
 case round=>
  obtain⟨k,hk,rfl,hb,HG⟩:=hrel
  by_cases t:k<n
  ·have hA:=(zu H).below hb hg
   obtain⟨e1,e2,e3⟩:=hA k (by omega)
   have e4:0<k→wr.cell? ⟨g,(k-1)*3,none⟩=some (.int .i64 (el3 ps (k-1)).1):=fun k0=>(hA (k-1) (by omega)).1
   have e5:0<k→wr.cell? ⟨g,(k-1)*3+1,none⟩=some (.int .i64 (el3 ps (k-1)).2.1):=fun k0=>(hA (k-1) (by omega)).2.1
   have gs:g<wr.heap.size:=Nat.lt_of_lt_of_le hg hb.size
   have gne:g≠wr.heap.size:=by omega
   clear hA
   have HB:=zh hb
   clear hb
   obtain⟨b1,B1⟩:=says_of (NoOk (el3 ps k).1)
   obtain⟨b2,B2⟩:=says_of (NoOk (el3 ps k).2.1)
   obtain⟨b3,B3⟩:=says_of (Amt (el3 ps k).2.2)
   obtain⟨b4,B4⟩:=says_of ((el3 ps (k-1)).1<(el3 ps k).1∨((el3 ps (k-1)).1=(el3 ps k).1∧(el3 ps (k-1)).2.1<(el3 ps k).2.1))
   have ROW:=zh (show RowOk ps k↔(b1=true)∧(b2=true)∧(b3=true)∧(el3 ps k).2.2≠0∧(0<k→b4=true) from by unfold Says at B1 B2 B3 B4;rw[B1,B2,B3,B4];exact Iff.rfl)
   have BAD:=zh (show ¬RowOk ps k→ok=false from fun hr=>hok.not (fun r=>hr (r.2 k (by omega))))
   have GOOD:=zh (show RowOk ps k→∀i,i<k+1→RowOk ps i from fun hr i hi=>by
    by_cases e:i=k
    ·subst e;exact hr
    ·exact(zu HG) i (by omega))
   generalize (el3 ps k).1=x at *
   generalize (el3 ps k).2.1=y at *
   generalize (el3 ps k).2.2=z at *
   generalize (el3 ps (k-1)).1=u at *
   generalize (el3 ps (k-1)).2.1=v at *
   have NB:=zh (fun m=>next (zu HB) (below_drewN (one_more wr (.cells #[.int .i64 x,.int .i64 y,.int .i64 z] 184)) m))
   cases b1
   ·clear e4 e5 B4
    have OKF:=zh ((zu BAD) (fun hr=>by have:=(zu ROW).1 hr;cases this.1))
    clear BAD GOOD ROW
    go_wp2_with fail
    go_quiet (first|(go_at_call 74;refine Calls.quiet_of_same (sNo _ false _ B1)))
    go_wp2
    go_ret
    exact⟨by rw[zu OKF];rfl,(zu NB) _⟩
   ·cases b2
    ·clear e4 e5 B4
     have OKF:=zh ((zu BAD) (fun hr=>by have:=(zu ROW).1 hr;cases this.2.1))
     clear BAD GOOD ROW
     go_wp2_with fail
     go_quiet (first|(go_at_call 74;refine Calls.quiet_of_same (sNo _ true _ B1))|(go_at_call 74;refine Calls.quiet_of_same (sNo _ false _ B2)))
     go_wp2
     go_ret
     exact⟨by rw[zu OKF];rfl,(zu NB) _⟩
    ·cases b3
     ·clear e4 e5 B4
      have OKF:=zh ((zu BAD) (fun hr=>by have:=(zu ROW).1 hr;cases this.2.2.1))
      clear BAD GOOD ROW
      go_wp2_with fail
      go_quiet (first|(go_at_call 74;refine Calls.quiet_of_same (sNo _ true _ B1))|(go_at_call 74;refine Calls.quiet_of_same (sNo _ true _ B2))|(go_at_call 86;refine Calls.quiet_of_same (sAmt _ false _ B3)))
      go_wp2
      go_ret
      exact⟨by rw[zu OKF];rfl,(zu NB) _⟩
     ·by_cases z0:z=0
      ·subst z0
       clear e4 e5 B4
       have OKF:=zh ((zu BAD) (fun hr=>by have:=(zu ROW).1 hr;exact this.2.2.2.1 rfl))
       clear BAD GOOD ROW
       go_wp2_with fail
       go_quiet (first|(go_at_call 74;refine Calls.quiet_of_same (sNo _ true _ B1))|(go_at_call 74;refine Calls.quiet_of_same (sNo _ true _ B2))|(go_at_call 86;refine Calls.quiet_of_same (sAmt _ true _ B3)))
       go_wp2
       go_ret
       exact⟨by rw[zu OKF];rfl,(zu NB) _⟩
      ·have zb:(z==0)=false:=by simpa using z0
       by_cases k0:0<k
       ·have e4:=e4 k0
        have e5:=e5 k0
        have k1:(0:Int)<(k:Int):=by omega
        have k2:(0:Int)≤(k:Int) -1:=by omega
        have k3:((k:Int) -1).toNat=k-1:=by omega
        have k4:IntKind.i64.wrap ((k:Int) -1)=(k:Int) -1:=by rw[IntKind.wrap_i64];omega
        have k5:(k:Int) -1<(n:Int):=by omega
        cases b4
        ·have OKF:=zh ((zu BAD) (fun hr=>by have:=(zu ROW).1 hr;cases this.2.2.2.2 k0))
         clear BAD GOOD ROW
         go_wp2_with fail
         go_quiet (first|(go_at_call 74;refine Calls.quiet_of_same (sNo _ true _ B1))|(go_at_call 74;refine Calls.quiet_of_same (sNo _ true _ B2))|(go_at_call 86;refine Calls.quiet_of_same (sAmt _ true _ B3))|(go_at_call 92;refine Calls.quiet_of_same (sBefore _ _ _ _ false _ B4)))
         go_wp2
         go_ret
         exact⟨by rw[zu OKF];rfl,(zu NB) _⟩
        ·have GO:=zh ((zu GOOD) ((zu ROW).2 ⟨rfl,rfl,rfl,z0,fun _=>rfl⟩))
         clear BAD GOOD ROW
         go_wp2_with fail
         go_quiet (first|(go_at_call 74;refine Calls.quiet_of_same (sNo _ true _ B1))|(go_at_call 74;refine Calls.quiet_of_same (sNo _ true _ B2))|(go_at_call 86;refine Calls.quiet_of_same (sAmt _ true _ B3))|(go_at_call 92;refine Calls.quiet_of_same (sBefore _ _ _ _ true _ B4)))
         go_wp2
         go_roundw
         case rel=>exact⟨k+1,by omega,by go_num,(zu NB) _,GO⟩
         case measure=>simp[intOf];omega
       ·obtain rfl:k=0:=by omega
        clear e4 e5 B4
        have GO:=zh ((zu GOOD) ((zu ROW).2 ⟨rfl,rfl,rfl,z0,fun h0=>absurd h0 k0⟩))
        clear BAD GOOD ROW
        go_wp2_with fail
        go_quiet (first|(go_at_call 74;refine Calls.quiet_of_same (sNo _ true _ B1))|(go_at_call 74;refine Calls.quiet_of_same (sNo _ true _ B2))|(go_at_call 86;refine Calls.quiet_of_same (sAmt _ true _ B3)))
        go_wp2
        go_roundw
        case rel=>exact⟨1,by omega,by go_num,(zu NB) _,GO⟩
        case measure=>simp[intOf];omega
  ·obtain rfl:k=n:=by omega
   obtain rfl:ok=true:=hok.of ⟨by omega,by rw[hl];exact zu HG⟩
   have HB:=zh hb
   clear hb hok
   go_wp2
   go_ret
   exact⟨rfl,zu HB⟩
end SOk3
end Go.Proofs.YtcjgepkdpkhljaaGreat
