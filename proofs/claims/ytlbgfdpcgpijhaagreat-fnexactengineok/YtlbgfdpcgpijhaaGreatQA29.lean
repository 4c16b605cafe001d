/- Texts of one proof. -/
import Derived.Test.YtlbgfdpcgpijhaaGreatQA26
import Derived.Test.YtlbgfdpcgpijhaaGreatQA28
open Go.ChangeShapes Go.WideShapes Go.ChangeAt Go.RowKit
set_option linter.unusedVariables false
set_option linter.unusedSimpArgs false
set_option maxRecDepth 100000
set_option maxHeartbeats 32000000
namespace Go.Proofs.YtlbgfdpcgpijhaaGreat
namespace ILotsFit
open BMem Bks IRead IHave ITrade ILists IBalsFit
open Lots (Says says_of NoOk qtyOf)
open Bals (T3 el3 val sumI upd ListOf)
open Tup5 (T5 el5)
open Tab (Tab Wf wf_no wf_amt)
def leftB(b:Bk)(k:Nat)(a i:Int):Int:=if kindOf b.ac a=1∧kindOf b.ic i=2 then val (b.bs.take k) a i else 0
def leftL(b:Bk)(k:Nat)(a i:Int):Int:=leftB b b.bs.length a i-qtyOf (b.ls.take k) a i
theorem leftB_zero(b:Bk)(a i:Int):leftB b 0 a i=0:=by
 unfold leftB
 split<;>rfl
theorem leftB_yes{b:Bk}(hr:Bals.Right b.bs){k:Nat}(hk:k<b.bs.length)(h:kindOf b.ac (el3 b.bs k).1=1∧kindOf b.ic (el3 b.bs k).2.1=2)(a i:Int):leftB b (k+1) a i=upd (leftB b k) (el3 b.bs k).1 (el3 b.bs k).2.1 (el3 b.bs k).2.2 a i:=by
 unfold leftB
 rw[Look.val_take hr hk]
 unfold upd
 by_cases e:a=(el3 b.bs k).1∧i=(el3 b.bs k).2.1
 ·rw[if_pos e,if_pos e,e.1,e.2,if_pos h]
 ·rw[if_neg e,if_neg e]
theorem leftB_no{b:Bk}(hr:Bals.Right b.bs){k:Nat}(hk:k<b.bs.length)(h:¬(kindOf b.ac (el3 b.bs k).1=1∧kindOf b.ic (el3 b.bs k).2.1=2))(a i:Int):leftB b (k+1) a i=leftB b k a i:=by
 unfold leftB
 by_cases q:kindOf b.ac a=1∧kindOf b.ic i=2
 ·rw[if_pos q,if_pos q,Look.val_take hr hk]
  unfold upd
  rw[if_neg (fun e=>h (by rw[←e.1,←e.2];exact q))]
 ·rw[if_neg q,if_neg q]
theorem leftL_zero(b:Bk)(a i:Int):leftL b 0 a i=leftB b b.bs.length a i:=by
 unfold leftL
 simp[qtyOf]
theorem leftL_next{b:Bk}{k:Nat}(hk:k<b.ls.length)(a i:Int):leftL b (k+1) a i=upd (leftL b k) (el5 b.ls k).1 (el5 b.ls k).2.1 (leftL b k (el5 b.ls k).1 (el5 b.ls k).2.1-(el5 b.ls k).2.2.2.1) a i:=by
 unfold upd
 by_cases e:a=(el5 b.ls k).1∧i=(el5 b.ls k).2.1
 ·rw[if_pos e]
  unfold leftL
  rw[Lots.qtyOf_next hk,if_pos ⟨e.1.symm,e.2.symm⟩,e.1,e.2]
  omega
 ·rw[if_neg e]
  unfold leftL
  rw[Lots.qtyOf_next hk,if_neg (fun r=>e ⟨r.1.symm,r.2.symm⟩)]
  omega
theorem leftL_all(b:Bk)(a i:Int):leftL b b.ls.length a i=leftT b a i:=by
 unfold leftL leftT leftB
 rw[List.take_length,List.take_length]
theorem leftL_bd{b:Bk}(hl:Lists b)(k:Nat)(a i:Int): -3000000000000000≤leftL b k a i∧leftL b k a i≤3000000000000000:=by
 obtain⟨_,_,hb,hL,_⟩:=hl
 have h1:=(hb.val_in a i).1
 have h2:=Lots.take_le (ps:=b.ls) (fun p hp=>by
  obtain⟨j,_,hj,rfl⟩:=Lots.mem_take (ps:=b.ls) (k:=b.ls.length) (p:=p) (by rw[List.take_length];exact hp)
  exact(hL.2.1 j hj).1) k a i
 have h3:=Lots.qty_pos (a:=a) (i:=i) (b.ls.take k) (fun p hp=>by
  obtain⟨j,_,hj,rfl⟩:=Lots.mem_take hp
  exact(hL.2.1 j hj).1)
 have h4:=hL.2.2 a i
 unfold leftL leftB
 unfold Bals.Amt at h1
 rw[List.take_length]
 split<;>omega
theorem list_none{f:Int→Int→Int}{qs:List T3}(h:ListOf f qs):qs.length=0↔∀a i,f a i=0:=by
 constructor
 ·intro e a i
  rw[←h.2 a i,List.length_eq_zero_iff.1 e]
  rfl
 ·intro e
  cases qs with
  |nil=>rfl
  |cons p r=>
   have:=(h.1.mem p).1 List.mem_cons_self
   rw[h.2,e] at this
   exact absurd this.2.symm this.1
theorem below_of_drew{w w':World}(h:Below w.drew.heap.size w.drew w'):Below w.heap.size w w':=⟨h.os,h.tape,h.output,h.size,h.block⟩
theorem St.grown{w W W':World}{x:Bx}{M:Nat}(H:Rd w x)(h:St w W x)(k:W.grownBy W' (some M))(hM:w.heap.size<M):St w W' x:=by
 have b:Below w.heap.size w W':=h.b.grown k (Nat.le_of_lt h.s) (fun j e=>by cases e;omega)
 have ne:some w.heap.size≠some M:=fun e=>by cases e;omega
 exact⟨H.below b,⟨k.cell h.c.c0 ne,k.cell h.c.c1 ne,k.cell h.c.c2 ne,k.cell h.c.c3 ne,k.cell h.c.c4 ne,k.cell h.c.c5 ne⟩,b,Nat.lt_of_lt_of_le h.s k.size⟩
theorem iLotsFit(w:World)(x:Bx)(b:Bool)(h:Rd w x)(hl:Lists x.b)(hb:Says b (LotsFit x.b)):
  Calls Tryz.prog 94 #[.agg #[.slice (some ⟨x.ga,0,none⟩) x.b.ac.length x.ca,.slice (some ⟨x.gi,0,none⟩) x.b.ic.length x.ci,.slice (some ⟨x.gb,0,none⟩) x.b.bs.length x.cb,.slice (some ⟨x.gl,0,none⟩) x.b.ls.length x.cl,.slice (some ⟨x.gt,0,none⟩) x.b.ts.length x.ct,.int .i64 x.b.lot]] w fun e w'=>e= .returned (.bool b)∧Below w.heap.size w w':=by
 have T:=zh hb
 have L:=zh hl
 have H:=zh h
 have S0:=zh ((St.start h 45).step (one_more _ (.map #[] 0)))
 have nb:=h.nb
 have nl:=h.nl
 have n160:x.b.bs.length≤160:=hl.2.2.1.1
 have n120:x.b.ls.length≤120:=hl.2.2.2.1.1
 have TM:=zh (Tab.tab_made (w.alloc (.cells #[.slice (some ⟨x.ga,0,none⟩) x.b.ac.length x.ca,.slice (some ⟨x.gi,0,none⟩) x.b.ic.length x.ci,.slice (some ⟨x.gb,0,none⟩) x.b.bs.length x.cb,.slice (some ⟨x.gl,0,none⟩) x.b.ls.length x.cl,.slice (some ⟨x.gt,0,none⟩) x.b.ts.length x.ct,.int .i64 x.b.lot] 45)))
 have hmm:= @run_makeMap Tryz.prog
 clear hb hl h
 go_enter Tryz.func94,Tryz.ntmps94
 go_wp2
 go_loopw [12] (fun i wr=>∃(k:Nat),k≤x.b.bs.length∧i= .int .i64 k∧St w wr x∧Hid (Tab wr (w.heap.size+1) k (leftB x.b k))) (fun i _=>x.b.bs.length-(intOf i).toNat)
 case atStart=>exact⟨0,by omega,rfl,zu S0,zh ((by simpa using zu TM:Tab _ (w.heap.size+1) 0 (fun _ _=>0)).congr (fun a i=>(leftB_zero _ a i).symm))⟩
 case round=>
  obtain⟨k,hk,rfl,hS,HT⟩:=hrel
  clear S0 TM
  by_cases t:k<x.b.bs.length
  ·obtain⟨d0,d1,d2⟩:=(hS.r.rb k t)
   obtain⟨c0,c1,c2,c3,c4,c5⟩:=hS.c
   obtain⟨r1,r2,r3,r4,_⟩:=(zu L).2.2.1.2 k t
   have WF:=zh (wf_no r1 r2)
   have WA:=wf_amt r3
   have YES:=zh (fun hh=>leftB_yes (zu L).2.2.1 t hh)
   have NO:=zh (fun hh=>leftB_no (zu L).2.2.1 t hh)
   have wz:=hS.s
   have S1:=zh (hS.step (one_more wr (.cells #[.int .i64 (el3 x.b.bs k).1,.int .i64 (el3 x.b.bs k).2.1,.int .i64 (el3 x.b.bs k).2.2] 111)))
   have T1:=zh ((zu HT).below (one_more wr (.cells #[.int .i64 (el3 x.b.bs k).1,.int .i64 (el3 x.b.bs k).2.1,.int .i64 (el3 x.b.bs k).2.2] 111)))
   clear hS HT r1 r2 r3 r4
   generalize (el3 x.b.bs k).1=y0 at *
   generalize (el3 x.b.bs k).2.1=y1 at *
   generalize (el3 x.b.bs k).2.2=y2 at *
   obtain⟨b0,h0⟩:=says_of (kindOf x.b.ac y0=1)
   obtain⟨b1,h1⟩:=says_of (kindOf x.b.ic y1=2)
   have H0:=zh h0
   have H1:=zh h1
   clear h0 h1
   go_wp2_with fail
   refine(iHolder _ x y0 b0 (zu S1).r (zu L).1 (zu H0)).mono ?_
   rintro e w1 ⟨rfl,bb⟩
   have S2:=zh ((zu S1).step bb)
   have T2:=zh ((zu T1).below bb)
   have f0:w1.cell? ⟨wr.heap.size,0,none⟩=some (.int .i64 y0):=(bb.cell (p:=⟨wr.heap.size,0,none⟩) (by simp)).trans (by simp)
   have f1:w1.cell? ⟨wr.heap.size,1,none⟩=some (.int .i64 y1):=(bb.cell (p:=⟨wr.heap.size,1,none⟩) (by simp)).trans (by simp)
   have f2:w1.cell? ⟨wr.heap.size,2,none⟩=some (.int .i64 y2):=(bb.cell (p:=⟨wr.heap.size,2,none⟩) (by simp)).trans (by simp)
   have z1:wr.heap.size<w1.heap.size:=by have:=bb.size;simp at this;omega
   clear bb c0 c1 c2 c3 c4 c5 d0 d1 d2 S1 T1
   obtain⟨c0,c1,c2,c3,c4,c5⟩:=(zu S2).c
   cases b0
   ·have E:=zh ((zu NO) (fun hh=>(zu H0).no hh.1))
    clear YES NO
    go_wp2
    go_roundw
    case rel=>
     refine⟨k+1,by omega,by go_num,zu S2,zh ?_⟩
     obtain⟨D,o1,o2⟩:=(zu T2).congr (fun a i=>((zu E) a i).symm)
     exact⟨D,o1.mono (by omega),o2⟩
    case measure=>simp[intOf];omega
   go_wp2_with fail
   refine(iPaper _ x y1 b1 (zu S2).r (zu L).2.1 (zu H1)).mono ?_
   rintro e w2 ⟨rfl,bb⟩
   have S3:=zh ((zu S2).step bb)
   have T3:=zh ((zu T2).below bb)
   replace f0:w2.cell? ⟨wr.heap.size,0,none⟩=some (.int .i64 y0):=(bb.cell (p:=⟨wr.heap.size,0,none⟩) z1).trans f0
   replace f1:w2.cell? ⟨wr.heap.size,1,none⟩=some (.int .i64 y1):=(bb.cell (p:=⟨wr.heap.size,1,none⟩) z1).trans f1
   replace f2:w2.cell? ⟨wr.heap.size,2,none⟩=some (.int .i64 y2):=(bb.cell (p:=⟨wr.heap.size,2,none⟩) z1).trans f2
   clear bb c0 c1 c2 c3 c4 c5 S2 T2
   cases b1
   ·have E:=zh ((zu NO) (fun hh=>(zu H1).no hh.2))
    clear YES NO
    go_wp2
    go_roundw
    case rel=>
     refine⟨k+1,by omega,by go_num,zu S3,zh ?_⟩
     obtain⟨D,o1,o2⟩:=(zu T3).congr (fun a i=>((zu E) a i).symm)
     exact⟨D,o1.mono (by omega),o2⟩
    case measure=>simp[intOf];omega
   have E:=zh ((zu YES) ⟨(zu H0).yes,(zu H1).yes⟩)
   clear YES NO
   go_wp2_with (first|(at_mapUpdate;refine Tab.wp_put _ rfl _ _ _ 178 rfl Tryz.underlying178 (w.heap.size+1) k _ rfl (zu T3) (by omega) y0 y1 y2 rfl rfl (zu WF) WA ?_;intro w3 t3 g3)|go_in)
   go_roundw
   case rel=>exact⟨k+1,by omega,by go_num,St.grown (zu H) (zu S3) g3 (by omega),zh (t3.congr (fun a i=>((zu E) a i).symm))⟩
   case measure=>simp[intOf];omega
  ·obtain rfl:k=x.b.bs.length:=by omega
   obtain⟨c0,c1,c2,c3,c4,c5⟩:=hS.c
   have S1:=zh hS
   have T1:=zh ((zu HT).congr (fun a i=>(leftL_zero x.b a i).symm))
   clear hS HT
   go_wp2
   go_loopw [38] (fun i wr=>∃(k:Nat),k≤x.b.ls.length∧i= .int .i64 k∧St w wr x∧Hid (Tab wr (w.heap.size+1) (x.b.bs.length+k) (leftL x.b k))∧Hid (∀j,j<k→LotFit x.b (el5 x.b.ls j))) (fun i _=>x.b.ls.length-(intOf i).toNat)
   case atStart=>exact⟨0,by omega,rfl,zu S1,T1,zh (fun i hi=>absurd hi (by omega))⟩
   case round=>
    clear c0 c1 c2 c3 c4 c5 S1 T1 hk t
    obtain⟨k,hk,rfl,hS,HT,HG⟩:=hrel
    by_cases t:k<x.b.ls.length
    ·obtain⟨d0,d1,d2,d3,d4⟩:=(hS.r.rl k t)
     obtain⟨c0,c1,c2,c3,c4,c5⟩:=hS.c
     have BAD:=zh (show ¬LotFit x.b (el5 x.b.ls k)→b=false from fun hr=>(zu T).not (fun r=>hr (r.1 k t)))
     have GOOD:=zh (show LotFit x.b (el5 x.b.ls k)→∀i,i<k+1→LotFit x.b (el5 x.b.ls i) from fun hr i hi=>by
      by_cases e:i=k
      ·subst e;exact hr
      ·exact(zu HG) i (by omega))
     have FIT:=zh (show LotFit x.b (el5 x.b.ls k)↔kindOf x.b.ac (el5 x.b.ls k).1=1∧kindOf x.b.ic (el5 x.b.ls k).2.1=2∧(el5 x.b.ls k).2.2.1≤x.b.lot from Iff.rfl)
     have NX:=zh (leftL_next t)
     obtain⟨r1,r2,_,r4,_⟩:=((zu L).2.2.2.1.2.1 k t).1
     have WF:=zh (wf_no r1 r2)
     have BD:=leftL_bd (zu L) k (el5 x.b.ls k).1 (el5 x.b.ls k).2.1
     have wz:=hS.s
     have mz:=(zu HT).lt
     have S1:=zh (hS.step (one_more wr (.cells #[.int .i64 (el5 x.b.ls k).1,.int .i64 (el5 x.b.ls k).2.1,.int .i64 (el5 x.b.ls k).2.2.1,.int .i64 (el5 x.b.ls k).2.2.2.1,.int .i64 (el5 x.b.ls k).2.2.2.2] 113)))
     have T1:=zh ((zu HT).below (one_more wr (.cells #[.int .i64 (el5 x.b.ls k).1,.int .i64 (el5 x.b.ls k).2.1,.int .i64 (el5 x.b.ls k).2.2.1,.int .i64 (el5 x.b.ls k).2.2.2.1,.int .i64 (el5 x.b.ls k).2.2.2.2] 113)))
     clear hS HT r1 r2
     generalize (el5 x.b.ls k).1=y0 at *
     generalize (el5 x.b.ls k).2.1=y1 at *
     generalize (el5 x.b.ls k).2.2.1=y2 at *
     generalize (el5 x.b.ls k).2.2.2.1=y3 at *
     generalize (el5 x.b.ls k).2.2.2.2=y4 at *
     obtain⟨b0,h0⟩:=says_of (kindOf x.b.ac y0=1)
     obtain⟨b1,h1⟩:=says_of (kindOf x.b.ic y1=2)
     have H0:=zh h0
     have H1:=zh h1
     clear h0 h1
     go_wp2_with fail
     refine(iHolder _ x y0 b0 (zu S1).r (zu L).1 (zu H0)).mono ?_
     rintro e w1 ⟨rfl,bb⟩
     have S2:=zh ((zu S1).step bb)
     have T2:=zh ((zu T1).below bb)
     have f0:w1.cell? ⟨wr.heap.size,0,none⟩=some (.int .i64 y0):=(bb.cell (p:=⟨wr.heap.size,0,none⟩) (by simp)).trans (by simp)
     have f1:w1.cell? ⟨wr.heap.size,1,none⟩=some (.int .i64 y1):=(bb.cell (p:=⟨wr.heap.size,1,none⟩) (by simp)).trans (by simp)
     have f2:w1.cell? ⟨wr.heap.size,2,none⟩=some (.int .i64 y2):=(bb.cell (p:=⟨wr.heap.size,2,none⟩) (by simp)).trans (by simp)
     have f3:w1.cell? ⟨wr.heap.size,3,none⟩=some (.int .i64 y3):=(bb.cell (p:=⟨wr.heap.size,3,none⟩) (by simp)).trans (by simp)
     have f4:w1.cell? ⟨wr.heap.size,4,none⟩=some (.int .i64 y4):=(bb.cell (p:=⟨wr.heap.size,4,none⟩) (by simp)).trans (by simp)
     have z1:wr.heap.size<w1.heap.size:=by have:=bb.size;simp at this;omega
     clear bb c0 c1 c2 c3 c4 c5 d0 d1 d2 d3 d4 S1 T1
     obtain⟨c0,c1,c2,c3,c4,c5⟩:=(zu S2).c
     cases b0
     ·have F:=zh ((zu BAD) (fun hh=>(zu H0).no ((zu FIT).1 hh).1))
      clear BAD GOOD FIT T
      go_wp2
      go_ret
      exact⟨by rw[zu F];rfl,(zu S2).b⟩
     go_wp2_with fail
     refine(iPaper _ x y1 b1 (zu S2).r (zu L).2.1 (zu H1)).mono ?_
     rintro e w2 ⟨rfl,bb⟩
     have S3:=zh ((zu S2).step bb)
     have T3:=zh ((zu T2).below bb)
     replace f0:w2.cell? ⟨wr.heap.size,0,none⟩=some (.int .i64 y0):=(bb.cell (p:=⟨wr.heap.size,0,none⟩) z1).trans f0
     replace f1:w2.cell? ⟨wr.heap.size,1,none⟩=some (.int .i64 y1):=(bb.cell (p:=⟨wr.heap.size,1,none⟩) z1).trans f1
     replace f2:w2.cell? ⟨wr.heap.size,2,none⟩=some (.int .i64 y2):=(bb.cell (p:=⟨wr.heap.size,2,none⟩) z1).trans f2
     replace f3:w2.cell? ⟨wr.heap.size,3,none⟩=some (.int .i64 y3):=(bb.cell (p:=⟨wr.heap.size,3,none⟩) z1).trans f3
     replace f4:w2.cell? ⟨wr.heap.size,4,none⟩=some (.int .i64 y4):=(bb.cell (p:=⟨wr.heap.size,4,none⟩) z1).trans f4
     have z2:wr.heap.size<w2.heap.size:=Nat.lt_of_lt_of_le z1 bb.size
     clear bb c0 c1 c2 c3 c4 c5 S2 T2
     have c5:=(zu S3).c.c5
     cases b1
     ·have F:=zh ((zu BAD) (fun hh=>(zu H1).no ((zu FIT).1 hh).2.1))
      clear BAD GOOD FIT T
      go_wp2
      go_ret
      exact⟨by rw[zu F];rfl,(zu S3).b⟩
     by_cases q:y2>x.b.lot
     ·have F:=zh ((zu BAD) (fun hh=>by have:=((zu FIT).1 hh).2.2;omega))
      clear BAD GOOD FIT T
      go_wp2
      go_ret
      exact⟨by rw[zu F];rfl,(zu S3).b⟩
     have G:=zh ((zu GOOD) ((zu FIT).2 ⟨(zu H0).yes,(zu H1).yes,by omega⟩))
     have hq:decide (y2>x.b.lot)=false:=decide_eq_false q
     clear BAD GOOD FIT q
     go_wp2_with fail
     clear c5
     generalize hfv:leftL x.b k y0 y1=fv at *
     have FV:=zh hfv
     have wrap1:IntKind.i64.wrap (fv-y3)=fv-y3:=by rw[IntKind.wrap_i64];omega
     have WV:(Lit.int .i64 (fv-y3)).wf=true:=WalkArith.wf_i64 (by omega)
     clear hfv
     have M1:=zh (fun(W:World) (bW:Below w2.heap.size w2 W)=>Entry.entry_run ((zu T3).below bW) (by omega) (zu WF))
     go_region_held3 (fun w'=>w'.cell? ⟨wr.heap.size,0,none⟩=some (.int .i64 y0)∧w'.cell? ⟨wr.heap.size,1,none⟩=some (.int .i64 y1)∧w'.cell? ⟨wr.heap.size,2,none⟩=some (.int .i64 y2)∧w'.cell? ⟨wr.heap.size,3,none⟩=some (.int .i64 y3)∧w'.cell? ⟨wr.heap.size,4,none⟩=some (.int .i64 y4)) (go_keep)
      (first|(go_at_call 157;refine(CmpL.keyL y0 y1 y2 y3 y4 w2.drew).mono ?_;rintro e w3 ⟨rfl,bb⟩;have bW:Below w2.heap.size w2 w3:=below_of_drew bb;have t3:=(zu T3).below bW;have l3:=Post.look_run t3 (zu WF);rw[zu FV] at l3;obtain⟨v0,st,w4,E4,t4,g4,ST⟩:=(zu M1) w3 bW;have l4:=Post.look_run t4 (zu WF);rw[zu FV] at l4;obtain⟨w5,E5,t5,g5⟩:=ST (fv-y3) WV;replace E5:(Instr.entryStore 178 (.map (some (w.heap.size+1))) (.int .i64 (st:Int)) (.int .i64 (fv-y3))).run Tryz.prog w4= .ok () w5:=E5;have ne:some wr.heap.size≠some (w.heap.size+1):=(fun e=>by injection e;omega);have p0:w3.cell? ⟨wr.heap.size,0,none⟩=some (.int .i64 y0):=(bW.cell (p:=⟨wr.heap.size,0,none⟩) z2).trans f0;have q0:=g4.cell p0 ne;have o0:=g5.cell p0 ne;have p1:w3.cell? ⟨wr.heap.size,1,none⟩=some (.int .i64 y1):=(bW.cell (p:=⟨wr.heap.size,1,none⟩) z2).trans f1;have q1:=g4.cell p1 ne;have o1:=g5.cell p1 ne;have p2:w3.cell? ⟨wr.heap.size,2,none⟩=some (.int .i64 y2):=(bW.cell (p:=⟨wr.heap.size,2,none⟩) z2).trans f2;have q2:=g4.cell p2 ne;have o2:=g5.cell p2 ne;have p3:w3.cell? ⟨wr.heap.size,3,none⟩=some (.int .i64 y3):=(bW.cell (p:=⟨wr.heap.size,3,none⟩) z2).trans f3;have q3:=g4.cell p3 ne;have o3:=g5.cell p3 ne;have p4:w3.cell? ⟨wr.heap.size,4,none⟩=some (.int .i64 y4):=(bW.cell (p:=⟨wr.heap.size,4,none⟩) z2).trans f4;have q4:=g4.cell p4 ne;have o4:=g5.cell p4 ne;clear bb ST))
     all_goals
      have S4:=zh (St.grown (zu H) ((zu S3).step bW) g5 (by omega))
      have T5:=zh (t5.congr (fun a i=>(by rw[zu NX]:leftL x.b (k+1) a i=upd (leftL x.b k) y0 y1 (fv-y3) a i).symm))
      clear t3 l3 E4 t4 g4 l4 t5 g5 E5 p0 p1 p2 p3 p4 q0 q1 q2 q3 q4 o0 o1 o2 o3 o4 f0 f1 f2 f3 f4 S3 T3 M1 bW NX
      go_wp2
      go_roundw
      case rel=>exact⟨k+1,by omega,by go_num,zu S4,T5,G⟩
      case measure=>simp[intOf];omega
    ·obtain rfl:k=x.b.ls.length:=by omega
     have ALL:=zh (show ∀j,j<x.b.ls.length→LotFit x.b (el5 x.b.ls j) from zu HG)
     have S1:=zh hS
     have T1:=zh ((zu HT).congr (fun a i=>leftL_all x.b a i))
     clear hS HT HG
     go_wp2_with fail
     refine(Out.iBals _ (w.heap.size+1) _ _ (by omega) (zu T1)).mono ?_
     rintro e w1 ⟨qs,g,c,hq,hn,rfl,ho,bb⟩
     have B1:=zh ((zu S1).b.trans (bb.mono (Nat.le_of_lt (zu S1).s)))
     have hd:((qs.length:Int)==0)=b:=by
      have hz:=(list_none hq).trans (lots_impl (zu ALL))
      by_cases z:qs.length=0
      ·rw[(zu T).of (hz.1 z),z];rfl
      ·rw[(zu T).not (fun r=>z (hz.2 r))]
       simp only[beq_eq_false_iff_ne]
       omega
     clear bb ho hq hn
     go_wp2
     go_ret
     exact⟨rfl,zu B1⟩
end ILotsFit
namespace SLots
open BMem Bks IRead IHave ITrade ILists IBalsFit SBals
open Lots (Says says_of NoOk ownL restL)
open Bals (T3 el3 val sumI)
open Tup5 (T5 el5)
open Takes (sumQ)
open ILotsFit (below_of_drew)
def Even(b:Bk)(j k:Nat):Prop:=(Chart.el b.ac j).2=1→(Chart.el b.ic k).2=2→sumQ (ownL b.ls (Chart.el b.ac j).1 (Chart.el b.ic k).1)=val b.bs (Chart.el b.ac j).1 (Chart.el b.ic k).1
theorem sLots(w:World)(x:Bx)(b:Bool)(h:Rd w x)(hl:Lists x.b)(hb:Says b (LotsFit x.b)):
  Calls Tryz.prog 74 #[.agg #[.slice (some ⟨x.ga,0,none⟩) x.b.ac.length x.ca,.slice (some ⟨x.gi,0,none⟩) x.b.ic.length x.ci,.slice (some ⟨x.gb,0,none⟩) x.b.bs.length x.cb,.slice (some ⟨x.gl,0,none⟩) x.b.ls.length x.cl,.slice (some ⟨x.gt,0,none⟩) x.b.ts.length x.ct,.int .i64 x.b.lot]] w fun e w'=>e= .returned (.bool b)∧Below w.heap.size w w':=by
 have T:=zh hb
 have L:=zh hl
 have S0:=zh (St.start h 45)
 have nl:=h.nl
 have na:=h.na
 have ni:=h.ni
 have nb:=h.nb
 have n120:x.b.ls.length≤120:=hl.2.2.2.1.1
 clear hb hl h
 go_enter Tryz.func74,Tryz.ntmps74
 go_wp2
 go_loopw [3] (fun i wr=>∃(k:Nat),k≤x.b.ls.length∧i= .int .i64 k∧St w wr x∧Hid (∀j,j<k→LotFit x.b (el5 x.b.ls j))) (fun i _=>x.b.ls.length-(intOf i).toNat)
 case atStart=>exact⟨0,by omega,rfl,zu S0,zh (fun i hi=>absurd hi (by omega))⟩
 case round=>
  obtain⟨k,hk,rfl,hS,HG⟩:=hrel
  clear S0
  by_cases t:k<x.b.ls.length
  ·obtain⟨d0,d1,d2,d3,d4⟩:=(hS.r.rl k t)
   obtain⟨c0,c1,c2,c3,c4,c5⟩:=hS.c
   have BAD:=zh (show ¬LotFit x.b (el5 x.b.ls k)→b=false from fun hr=>(zu T).not (fun r=>hr (r.1 k t)))
   have GOOD:=zh (show LotFit x.b (el5 x.b.ls k)→∀i,i<k+1→LotFit x.b (el5 x.b.ls i) from fun hr i hi=>by
    by_cases e:i=k
    ·subst e;exact hr
    ·exact(zu HG) i (by omega))
   have FIT:=zh (show LotFit x.b (el5 x.b.ls k)↔kindOf x.b.ac (el5 x.b.ls k).1=1∧kindOf x.b.ic (el5 x.b.ls k).2.1=2∧(el5 x.b.ls k).2.2.1≤x.b.lot from Iff.rfl)
   have wz:=hS.s
   have S1:=zh (hS.step (one_more wr (.cells #[.int .i64 (el5 x.b.ls k).1,.int .i64 (el5 x.b.ls k).2.1,.int .i64 (el5 x.b.ls k).2.2.1,.int .i64 (el5 x.b.ls k).2.2.2.1,.int .i64 (el5 x.b.ls k).2.2.2.2] 113)))
   clear hS
   generalize LotFit x.b (el5 x.b.ls k)=FP at *
   generalize (el5 x.b.ls k).1=y0 at *
   generalize (el5 x.b.ls k).2.1=y1 at *
   generalize (el5 x.b.ls k).2.2.1=y2 at *
   generalize (el5 x.b.ls k).2.2.2.1=y3 at *
   generalize (el5 x.b.ls k).2.2.2.2=y4 at *
   generalize hK:kindOf x.b.ac y0=K at *
   generalize hJ:kindOf x.b.ic y1=J at *
   have HK:=zh hK
   have HJ:=zh hJ
   clear hK hJ
   go_wp2_with fail
   refine(sKindA _ x y0 K (zu S1).r (zu L).1 (zu HK)).mono ?_
   rintro e w1 ⟨rfl,bb⟩
   have S2:=zh ((zu S1).step bb)
   have f1:w1.cell? ⟨wr.heap.size,1,none⟩=some (.int .i64 y1):=(bb.cell (p:=⟨wr.heap.size,1,none⟩) (by simp)).trans (by simp)
   have f2:w1.cell? ⟨wr.heap.size,2,none⟩=some (.int .i64 y2):=(bb.cell (p:=⟨wr.heap.size,2,none⟩) (by simp)).trans (by simp)
   have z1:wr.heap.size<w1.heap.size:=by have:=bb.size;simp at this;omega
   clear bb c0 c1 c2 c3 c4 c5 d0 d1 d2 d3 d4
   obtain⟨c0,c1,c2,c3,c4,c5⟩:=(zu S2).c
   by_cases q0:K=1
   ·have hq0:(K !=1)=false:=by simp[q0]
    have Q0:=zh q0
    clear q0
    go_wp2_with fail
    refine(sKindI _ x y1 J (zu S2).r (zu L).2.1 (zu HJ)).mono ?_
    rintro e w2 ⟨rfl,bb⟩
    have S3:=zh ((zu S2).step bb)
    replace f2:w2.cell? ⟨wr.heap.size,2,none⟩=some (.int .i64 y2):=(bb.cell (p:=⟨wr.heap.size,2,none⟩) z1).trans f2
    clear bb c0 c1 c2 c3 c4 c5
    obtain⟨c0,c1,c2,c3,c4,c5⟩:=(zu S3).c
    by_cases q1:J=2
    ·have hq1:(J !=2)=false:=by simp[q1]
     by_cases q2:y2>x.b.lot
     ·have F:=zh ((zu BAD) (fun hh=>by have:=((zu FIT).1 hh).2.2;omega))
      clear BAD GOOD FIT T q1
      go_wp2
      go_ret
      exact⟨by rw[zu F];rfl,(zu S3).b⟩
     ·have G:=zh ((zu GOOD) ((zu FIT).2 ⟨zu Q0,q1,by omega⟩))
      have hq2:decide (y2>x.b.lot)=false:=decide_eq_false q2
      clear BAD GOOD FIT q1 q2
      go_wp2
      go_roundw
      case rel=>exact⟨k+1,by omega,by go_num,zu S3,G⟩
      case measure=>simp[intOf];omega
    ·have F:=zh ((zu BAD) (fun hh=>q1 ((zu FIT).1 hh).2.1))
     have hq1:(J !=2)=true:=by simp[q1]
     clear BAD GOOD FIT T q1
     go_wp2
     go_ret
     exact⟨by rw[zu F];rfl,(zu S3).b⟩
   ·have F:=zh ((zu BAD) (fun hh=>q0 ((zu FIT).1 hh).1))
    have hq:(K !=1)=true:=by simp[q0]
    clear BAD GOOD FIT T q0
    go_wp2
    go_ret
    exact⟨by rw[zu F];rfl,(zu S2).b⟩
  ·have ALL:=zh (show ∀j,j<x.b.ls.length→LotFit x.b (el5 x.b.ls j) from fun j hj=>(zu HG) j (by omega))
   have IFF:=zh (lots_spec (zu L).1 (zu L).2.1 (zu ALL))
   obtain⟨c0,c1,c2,c3,c4,c5⟩:=hS.c
   have S1:=zh hS
   clear hS HG
   go_wp2
   go_loopw [5] (fun i wr=>∃(j:Nat),j≤x.b.ac.length∧i= .int .i64 j∧St w wr x∧Hid (∀j',j'<j→∀k,k<x.b.ic.length→Even x.b j' k)) (fun i _=>x.b.ac.length-(intOf i).toNat)
   case atStart=>exact⟨0,by omega,rfl,zu S1,zh (fun i hi=>absurd hi (by omega))⟩
   case round=>
    clear c0 c1 c2 c3 c4 c5 S1 hk t
    obtain⟨j,hj,rfl,hS,HG⟩:=hrel
    obtain⟨c0,c1,c2,c3,c4,c5⟩:=hS.c
    have S1:=zh hS
    clear hS
    by_cases t:j<x.b.ac.length
    ·go_wp2
     go_loopw [6] (fun i wr=>∃(k:Nat),k≤x.b.ic.length∧i= .int .i64 k∧St w wr x∧Hid (∀k',k'<k→Even x.b j k')) (fun i _=>x.b.ic.length-(intOf i).toNat)
     case atStart=>exact⟨0,by omega,rfl,zu S1,zh (fun i hi=>absurd hi (by omega))⟩
     case round=>
      clear c0 c1 c2 c3 c4 c5 S1
      obtain⟨k,hk,rfl,hS,HK⟩:=hrel
      obtain⟨c0,c1,c2,c3,c4,c5⟩:=hS.c
      by_cases u:k<x.b.ic.length
      ·obtain⟨a0,a1⟩:=hS.r.ra j t
       obtain⟨i0,i1⟩:=hS.r.ri k u
       have S2:=zh hS
       have wz:=hS.s
       clear hS
       have BAD:=zh (show ¬Even x.b j k→b=false from fun hr=>(zu T).not (fun r=>hr (((zu IFF).1 r) j t k u)))
       have GOOD:=zh (show Even x.b j k→∀i,i<k+1→Even x.b j i from fun hr i hi=>by
        by_cases e:i=k
        ·subst e;exact hr
        ·exact(zu HK) i (by omega))
       have DEF:=zh (show Even x.b j k↔((Chart.el x.b.ac j).2=1→(Chart.el x.b.ic k).2=2→sumQ (ownL x.b.ls (Chart.el x.b.ac j).1 (Chart.el x.b.ic k).1)=val x.b.bs (Chart.el x.b.ac j).1 (Chart.el x.b.ic k).1) from Iff.rfl)
       generalize Even x.b j k=EP at *
       generalize (Chart.el x.b.ac j).1=y0 at *
       generalize (Chart.el x.b.ac j).2=y1 at *
       generalize (Chart.el x.b.ic k).1=z0 at *
       generalize (Chart.el x.b.ic k).2=z1 at *
       by_cases q0:y1=1
       ·by_cases q1:z1=2
        ·have DEF2:=zh (show EP↔sumQ (ownL x.b.ls y0 z0)=val x.b.bs y0 z0 from(zu DEF).trans ⟨fun hh=>hh q0 q1,fun hh _ _=>hh⟩)
         have hq0:(y1==1)=true:=by simp[q0]
         have hq1:(z1==2)=true:=by simp[q1]
         have kj:(0:Int)≤(j:Int):=by omega
         have kj2:(j:Int)<(x.b.ac.length:Int):=by omega
         have kk:(0:Int)≤(k:Int):=by omega
         have kk2:(k:Int)<(x.b.ic.length:Int):=by omega
         clear DEF q0 q1
         go_wp2_with fail
         have ga:=(zu S2).r.la
         have gi:=(zu S2).r.li
         go_region_held3 (fun w'=>w'.cell? ⟨w.heap.size,0,none⟩=some (.slice (some ⟨x.ga,0,none⟩) x.b.ac.length x.ca)∧w'.cell? ⟨w.heap.size,1,none⟩=some (.slice (some ⟨x.gi,0,none⟩) x.b.ic.length x.ci)∧w'.cell? ⟨w.heap.size,2,none⟩=some (.slice (some ⟨x.gb,0,none⟩) x.b.bs.length x.cb)∧w'.cell? ⟨w.heap.size,3,none⟩=some (.slice (some ⟨x.gl,0,none⟩) x.b.ls.length x.cl)∧w'.cell? ⟨x.ga,j*2,none⟩=some (.int .i64 y0)∧w'.cell? ⟨x.gi,k*2,none⟩=some (.int .i64 z0)) (go_keep)
          (first|(go_at_call 137;refine(SSplit.sSplit wr.drew x.gl _ x.cl x.b.ls y0 z0 rfl (by omega) (zu S2).r.ll (zu S2).r.rl).mono ?_;rintro e w3 ⟨g1,k1,g2,k2,rfl,o1,o2,ne,bb⟩;have bW:Below wr.heap.size wr w3:=below_of_drew bb;have pc0:w3.cell? ⟨w.heap.size,0,none⟩=some (.slice (some ⟨x.ga,0,none⟩) x.b.ac.length x.ca):=(bW.cell (p:=⟨w.heap.size,0,none⟩) wz).trans c0;have pc1:w3.cell? ⟨w.heap.size,1,none⟩=some (.slice (some ⟨x.gi,0,none⟩) x.b.ic.length x.ci):=(bW.cell (p:=⟨w.heap.size,1,none⟩) wz).trans c1;have pc2:w3.cell? ⟨w.heap.size,2,none⟩=some (.slice (some ⟨x.gb,0,none⟩) x.b.bs.length x.cb):=(bW.cell (p:=⟨w.heap.size,2,none⟩) wz).trans c2;have pc3:w3.cell? ⟨w.heap.size,3,none⟩=some (.slice (some ⟨x.gl,0,none⟩) x.b.ls.length x.cl):=(bW.cell (p:=⟨w.heap.size,3,none⟩) wz).trans c3;have pa0:w3.cell? ⟨x.ga,j*2,none⟩=some (.int .i64 y0):=(bW.cell (p:=⟨x.ga,j*2,none⟩) ga).trans a0;have pi0:w3.cell? ⟨x.gi,k*2,none⟩=some (.int .i64 z0):=(bW.cell (p:=⟨x.gi,k*2,none⟩) gi).trans i0))
         have S3:=zh ((zu S2).step bW)
         have O1:=zh o1
         have l1:=o1.lt.2
         clear c0 c1 c2 c3 c4 c5 a0 a1 i0 i1 bb bW o1 o2 ne
         obtain⟨ps1,ps2,ps3⟩:=Takes.own_pos (zu L).2.2.2.1 y0 z0
         have P1:=zh ps1
         have n1:(ownL x.b.ls y0 z0).length≤1048576:=Nat.le_trans (List.length_filter_le _ _) nl
         have w3z:=(zu S3).s
         have ga3:=(zu S3).r.la
         have gi3:=(zu S3).r.li
         clear ps1 ps3
         generalize hQ:sumQ (ownL x.b.ls y0 z0)=QV at *
         generalize hV:val x.b.bs y0 z0=VV at *
         have HQ:=zh hQ
         have HV:=zh hV
         clear hQ hV
         go_wp2_with fail
         go_region_held3 (fun w'=>w'.cell? ⟨w.heap.size,0,none⟩=some (.slice (some ⟨x.ga,0,none⟩) x.b.ac.length x.ca)∧w'.cell? ⟨w.heap.size,1,none⟩=some (.slice (some ⟨x.gi,0,none⟩) x.b.ic.length x.ci)∧w'.cell? ⟨w.heap.size,2,none⟩=some (.slice (some ⟨x.gb,0,none⟩) x.b.bs.length x.cb)∧w'.cell? ⟨w.heap.size,3,none⟩=some (.slice (some ⟨x.gl,0,none⟩) x.b.ls.length x.cl)∧w'.cell? ⟨x.ga,j*2,none⟩=some (.int .i64 y0)∧w'.cell? ⟨x.gi,k*2,none⟩=some (.int .i64 z0)) (go_keep)
          (first|(go_at_call 138;refine(SSplit.sQty w3.drew g1 _ k1 (ownL x.b.ls y0 z0) rfl n1 (zu O1).at (zu P1) (by rw[zu HQ];exact ps2)).mono ?_;rintro e w4 ⟨he,bb⟩;rw[zu HQ] at he;subst he;have bW:Below w3.heap.size w3 w4:=below_of_drew bb;have qc0:w4.cell? ⟨w.heap.size,0,none⟩=some (.slice (some ⟨x.ga,0,none⟩) x.b.ac.length x.ca):=(bW.cell (p:=⟨w.heap.size,0,none⟩) w3z).trans pc0;have qc1:w4.cell? ⟨w.heap.size,1,none⟩=some (.slice (some ⟨x.gi,0,none⟩) x.b.ic.length x.ci):=(bW.cell (p:=⟨w.heap.size,1,none⟩) w3z).trans pc1;have qc2:w4.cell? ⟨w.heap.size,2,none⟩=some (.slice (some ⟨x.gb,0,none⟩) x.b.bs.length x.cb):=(bW.cell (p:=⟨w.heap.size,2,none⟩) w3z).trans pc2;have qc3:w4.cell? ⟨w.heap.size,3,none⟩=some (.slice (some ⟨x.gl,0,none⟩) x.b.ls.length x.cl):=(bW.cell (p:=⟨w.heap.size,3,none⟩) w3z).trans pc3;have qa0:w4.cell? ⟨x.ga,j*2,none⟩=some (.int .i64 y0):=(bW.cell (p:=⟨x.ga,j*2,none⟩) ga3).trans pa0;have qi0:w4.cell? ⟨x.gi,k*2,none⟩=some (.int .i64 z0):=(bW.cell (p:=⟨x.gi,k*2,none⟩) gi3).trans pi0)|(go_at_call 139;refine(Look.sOf w4 x.gb _ x.cb x.b.bs y0 z0 rfl nb ((zu S3).r.below bW).rb).mono ?_;rintro e w5 ⟨he,rfl⟩;rw[zu HV] at he;subst he))
         have S4:=zh ((zu S3).step bW)
         clear bb bW qc0 qc1 qc2 qc3 qa0 qi0 pc0 pc1 pc2 pc3 pa0 pi0
         by_cases q2:QV=VV
         ·have G:=zh ((zu GOOD) ((zu DEF2).2 q2))
          have hq2:(QV !=VV)=false:=by simp[q2]
          clear BAD GOOD DEF2 q2
          go_wp2
          go_roundw
          case rel=>exact⟨k+1,by omega,by go_num,zu S4,G⟩
          case measure=>simp[intOf];omega
         ·have F:=zh ((zu BAD) (fun hh=>q2 ((zu DEF2).1 hh)))
          have hq2:(QV !=VV)=true:=by simp[q2]
          clear BAD GOOD DEF2 T q2
          go_wp2
          go_ret
          exact⟨by rw[zu F];rfl,(zu S4).b⟩
        ·have G:=zh ((zu GOOD) ((zu DEF).2 (fun _ e=>absurd e q1)))
         have hq0:(y1==1)=true:=by simp[q0]
         have hq1:(z1==2)=false:=by simp[q1]
         clear BAD GOOD DEF q0 q1
         go_wp2
         go_roundw
         case rel=>exact⟨k+1,by omega,by go_num,zu S2,G⟩
         case measure=>simp[intOf];omega
       ·have G:=zh ((zu GOOD) ((zu DEF).2 (fun e _=>absurd e q0)))
        have hq0:(y1==1)=false:=by simp[q0]
        clear BAD GOOD DEF q0
        go_wp2
        go_roundw
        case rel=>exact⟨k+1,by omega,by go_num,zu S2,G⟩
        case measure=>simp[intOf];omega
      ·have G:=zh (show ∀j',j'<j+1→∀k,k<x.b.ic.length→Even x.b j' k from fun j' hj' k' hk'=>by
        by_cases e:j'=j
        ·subst e;exact(zu HK) k' (by omega)
        ·exact(zu HG) j' (by omega) k' hk')
       have S2:=zh hS
       clear hS
       go_wp2
       go_roundw
       case rel=>exact⟨j+1,by omega,by go_num,zu S2,G⟩
       case measure=>simp[intOf];omega
    ·have F:=zh ((zu T).of ((zu IFF).2 (fun j' hj' k hk=>(zu HG) j' (by omega) k hk)))
     go_wp2
     go_ret
     exact⟨by rw[zu F];rfl,(zu S1).b⟩
end SLots
namespace SBooksOk
open BMem Bks IRead IHave ITrade ILists IBalsFit SBals SLots
open Lots (Says says_of NoOk)
open Tup8 (T8 el8)
theorem sOksA(w:World)(x:Bx)(ok:Bool)(h:Rd w x)(hok:Chart.Says ok 20 4 x.b.ac):Calls Tryz.prog 68 #[.slice (some ⟨x.ga,0,none⟩) x.b.ac.length x.ca] w fun e w'=>e= .returned (.bool ok)∧Below w.heap.size w w':=
 (AccountSOk.sOk w x.ga _ x.ca x.b.ac ok rfl h.na h.ra hok).mono fun e w' ⟨h1,q,h2⟩=>⟨h1,by rw[h2];exact below_drewN (Below.refl _ _) q⟩
theorem sOksI(w:World)(x:Bx)(ok:Bool)(h:Rd w x)(hok:Chart.Says ok 8 2 x.b.ic):Calls Tryz.prog 69 #[.slice (some ⟨x.gi,0,none⟩) x.b.ic.length x.ci] w fun e w'=>e= .returned (.bool ok)∧Below w.heap.size w w':=
 (InstrSOk.sOk w x.gi _ x.ci x.b.ic ok rfl h.ni h.ri hok).mono fun e w' ⟨h1,q,h2⟩=>⟨h1,by rw[h2];exact below_drewN (Below.refl _ _) q⟩
theorem sBooksOk(w:World)(x:Bx)(b:Bool)(h:Rd w x)(hb:Says b (Ok x.b)):
  Calls Tryz.prog 27 #[.agg #[.slice (some ⟨x.ga,0,none⟩) x.b.ac.length x.ca,.slice (some ⟨x.gi,0,none⟩) x.b.ic.length x.ci,.slice (some ⟨x.gb,0,none⟩) x.b.bs.length x.cb,.slice (some ⟨x.gl,0,none⟩) x.b.ls.length x.cl,.slice (some ⟨x.gt,0,none⟩) x.b.ts.length x.ct,.int .i64 x.b.lot]] w fun e w'=>e= .returned (.bool b)∧Below w.heap.size w w':=by
 have T:=zh hb
 have S0:=zh (St.start h 45)
 have nb:=h.nb
 have nl:=h.nl
 have nt:=h.nt
 obtain⟨b0,h0⟩:=Chart.says_of 20 4 x.b.ac
 obtain⟨b1,h1⟩:=Chart.says_of 8 2 x.b.ic
 obtain⟨b2,h2⟩:=Bals.says_of (Bals.Right x.b.bs)
 obtain⟨b3,h3⟩:=says_of (Lots.Right x.b.ls)
 obtain⟨b4,h4⟩:=says_of (TRight x.b.ts)
 obtain⟨b5,h5⟩:=says_of (0≤x.b.lot∧x.b.lot≤1000000000)
 obtain⟨b6,h6⟩:=says_of (BalsFit x.b)
 obtain⟨b7,h7⟩:=says_of (LotsFit x.b)
 have H0:=zh h0
 have H1:=zh h1
 have H2:=zh h2
 have H3:=zh h3
 have H4:=zh h4
 have H5:=zh h5
 have H6:=zh h6
 have H7:=zh h7
 clear hb h h0 h1 h2 h3 h4 h5 h6 h7
 go_enter Tryz.func27,Tryz.ntmps27
 go_wp2_with fail
 refine(sOksA _ x b0 (zu S0).r (zu H0)).mono ?_
 rintro e w1 ⟨rfl,bb⟩
 have S1:=zh ((zu S0).step bb)
 clear bb
 obtain⟨c0,c1,c2,c3,c4,c5⟩:=(zu S1).c
 cases b0
 ·have F:=zh ((zu T).not (fun hh=>(zu H0).no hh.1.1))
  clear T
  go_wp2
  go_ret
  exact⟨by rw[zu F];rfl,(zu S1).b⟩
 go_wp2_with fail
 refine(sOksI _ x b1 (zu S1).r (zu H1)).mono ?_
 rintro e w2 ⟨rfl,bb⟩
 have S2:=zh ((zu S1).step bb)
 clear bb
 clear c0 c1 c2 c3 c4 c5
 obtain⟨c0,c1,c2,c3,c4,c5⟩:=(zu S2).c
 cases b1
 ·have F:=zh ((zu T).not (fun hh=>(zu H1).no hh.1.2.1))
  clear T
  go_wp2
  go_ret
  exact⟨by rw[zu F];rfl,(zu S2).b⟩
 go_wp2_with fail
 refine(SOk3.sOk _ x.gb _ x.cb x.b.bs b2 rfl nb (zu S2).r.lb (zu S2).r.rb (zu H2)).mono ?_
 rintro e w3 ⟨rfl,bb⟩
 have S3:=zh ((zu S2).step bb)
 clear bb
 clear c0 c1 c2 c3 c4 c5
 obtain⟨c0,c1,c2,c3,c4,c5⟩:=(zu S3).c
 cases b2
 ·have F:=zh ((zu T).not (fun hh=>(zu H2).no hh.1.2.2.1))
  clear T
  go_wp2
  go_ret
  exact⟨by rw[zu F];rfl,(zu S3).b⟩
 go_wp2_with fail
 refine(SOk5.sOk _ x.gl _ x.cl x.b.ls b3 rfl nl (zu S3).r.ll (zu S3).r.rl (zu H3)).mono ?_
 rintro e w4 ⟨rfl,bb⟩
 have S4:=zh ((zu S3).step bb)
 clear bb
 clear c0 c1 c2 c3 c4 c5
 obtain⟨c0,c1,c2,c3,c4,c5⟩:=(zu S4).c
 cases b3
 ·have F:=zh ((zu T).not (fun hh=>(zu H3).no hh.1.2.2.2.1))
  clear T
  go_wp2
  go_ret
  exact⟨by rw[zu F];rfl,(zu S4).b⟩
 go_wp2_with fail
 refine(ITrade.sOk _ x.gt _ x.ct x.b.ts b4 rfl nt (zu S4).r.lt (zu S4).r.rt (zu H4)).mono ?_
 rintro e w5 ⟨rfl,bb⟩
 have S5:=zh ((zu S4).step bb)
 clear bb
 clear c0 c1 c2 c3 c4 c5
 obtain⟨c0,c1,c2,c3,c4,c5⟩:=(zu S5).c
 cases b4
 ·have F:=zh ((zu T).not (fun hh=>(zu H4).no hh.1.2.2.2.2.1))
  clear T
  go_wp2
  go_ret
  exact⟨by rw[zu F];rfl,(zu S5).b⟩
 go_wp2_with fail
 refine(SOk5.sIn x.b.lot 0 1000000000 b5 _ (zu H5)).mono ?_
 rintro e w6 ⟨rfl,rfl⟩
 have S6:=S5
 cases b5
 ·have F:=zh ((zu T).not (fun hh=>(zu H5).no hh.1.2.2.2.2.2))
  clear T
  go_wp2
  go_ret
  exact⟨by rw[zu F];rfl,(zu S6).b⟩
 have L:=zh (show Lists x.b from⟨(zu H0).yes,(zu H1).yes,(zu H2).yes,(zu H3).yes,(zu H4).yes,(zu H5).yes⟩)
 go_wp2_with fail
 refine(sBals _ x b6 (zu S6).r (zu L) (zu H6)).mono ?_
 rintro e w7 ⟨rfl,bb⟩
 have S7:=zh ((zu S6).step bb)
 clear bb
 clear c0 c1 c2 c3 c4 c5
 obtain⟨c0,c1,c2,c3,c4,c5⟩:=(zu S7).c
 cases b6
 ·have F:=zh ((zu T).not (fun hh=>(zu H6).no hh.2.1))
  clear T
  go_wp2
  go_ret
  exact⟨by rw[zu F];rfl,(zu S7).b⟩
 go_wp2_with fail
 refine(sLots _ x b7 (zu S7).r (zu L) (zu H7)).mono ?_
 rintro e w8 ⟨rfl,bb⟩
 have S8:=zh ((zu S7).step bb)
 clear bb
 clear c0 c1 c2 c3 c4 c5
 obtain⟨c0,c1,c2,c3,c4,c5⟩:=(zu S8).c
 cases b7
 ·have F:=zh ((zu T).not (fun hh=>(zu H7).no hh.2.2.1))
  clear T
  go_wp2
  go_ret
  exact⟨by rw[zu F];rfl,(zu S8).b⟩
 go_wp2
 go_loopw [3] (fun i wr=>∃(k:Nat),k≤x.b.ts.length∧i= .int .i64 k∧St w wr x∧Hid (∀j,j<k→TradeFit x.b (el8 x.b.ts j))) (fun i _=>x.b.ts.length-(intOf i).toNat)
 case atStart=>exact⟨0,by omega,rfl,zu S8,zh (fun i hi=>absurd hi (by omega))⟩
 case round=>
  obtain⟨k,hk,rfl,hS,HG⟩:=hrel
  clear S0 S1 S2 S3 S4 S5 S6 S7 S8 c0 c1 c2 c3 c4 c5
  obtain⟨c0,c1,c2,c3,c4,c5⟩:=hS.c
  by_cases t:k<x.b.ts.length
  ·obtain⟨d0,d1,d2,d3,d4,d5,d6,d7⟩:=(hS.r.rt k t)
   have BAD:=zh (show ¬TradeFit x.b (el8 x.b.ts k)→b=false from fun hr=>(zu T).not (fun r=>hr (r.2.2.2 k t)))
   have GOOD:=zh (show TradeFit x.b (el8 x.b.ts k)→∀i,i<k+1→TradeFit x.b (el8 x.b.ts i) from fun hr i hi=>by
    by_cases e:i=k
    ·subst e;exact hr
    ·exact(zu HG) i (by omega))
   have FIT:=zh (show TradeFit x.b (el8 x.b.ts k)↔kindOf x.b.ac (el8 x.b.ts k).2.1=1∧kindOf x.b.ac (el8 x.b.ts k).2.2.1=1∧kindOf x.b.ic (el8 x.b.ts k).2.2.2.1=2∧kindOf x.b.ic (el8 x.b.ts k).2.2.2.2.2.1=1 from Iff.rfl)
   have wz:=hS.s
   have S1:=zh (hS.step (one_more wr (.cells #[.int .i64 (el8 x.b.ts k).1,.int .i64 (el8 x.b.ts k).2.1,.int .i64 (el8 x.b.ts k).2.2.1,.int .i64 (el8 x.b.ts k).2.2.2.1,.int .i64 (el8 x.b.ts k).2.2.2.2.1,.int .i64 (el8 x.b.ts k).2.2.2.2.2.1,.int .i64 (el8 x.b.ts k).2.2.2.2.2.2.1,.int .i64 (el8 x.b.ts k).2.2.2.2.2.2.2] 115)))
   clear hS
   generalize TradeFit x.b (el8 x.b.ts k)=FP at *
   generalize (el8 x.b.ts k).1=y0 at *
   generalize (el8 x.b.ts k).2.1=y1 at *
   generalize (el8 x.b.ts k).2.2.1=y2 at *
   generalize (el8 x.b.ts k).2.2.2.1=y3 at *
   generalize (el8 x.b.ts k).2.2.2.2.1=y4 at *
   generalize (el8 x.b.ts k).2.2.2.2.2.1=y5 at *
   generalize (el8 x.b.ts k).2.2.2.2.2.2.1=y6 at *
   generalize (el8 x.b.ts k).2.2.2.2.2.2.2=y7 at *
   generalize hK1:kindOf x.b.ac y1=K1 at *
   generalize hK2:kindOf x.b.ac y2=K2 at *
   generalize hK3:kindOf x.b.ic y3=K3 at *
   generalize hK4:kindOf x.b.ic y5=K4 at *
   have N1:=zh hK1
   have N2:=zh hK2
   have N3:=zh hK3
   have N4:=zh hK4
   clear hK1 hK2 hK3 hK4
   go_wp2_with fail
   refine(sKindA _ x y1 K1 (zu S1).r (zu L).1 (zu N1)).mono ?_
   rintro e v1 ⟨rfl,bb⟩
   have S2:=zh ((zu S1).step bb)
   have f2:v1.cell? ⟨wr.heap.size,2,none⟩=some (.int .i64 y2):=(bb.cell (p:=⟨wr.heap.size,2,none⟩) (by simp)).trans (by simp)
   have f3:v1.cell? ⟨wr.heap.size,3,none⟩=some (.int .i64 y3):=(bb.cell (p:=⟨wr.heap.size,3,none⟩) (by simp)).trans (by simp)
   have f5:v1.cell? ⟨wr.heap.size,5,none⟩=some (.int .i64 y5):=(bb.cell (p:=⟨wr.heap.size,5,none⟩) (by simp)).trans (by simp)
   have z1:wr.heap.size<v1.heap.size:=by have:=bb.size;simp at this;omega
   clear d0 d1 d2 d3 d4 d5 d6 d7
   clear bb c0 c1 c2 c3 c4 c5
   obtain⟨c0,c1,c2,c3,c4,c5⟩:=(zu S2).c
   by_cases q1:K1=1
   rotate_left
   ·have F:=zh ((zu BAD) (fun hh=>q1 ((zu FIT).1 hh).1))
    have hq:(K1 !=1)=true:=by simp[q1]
    clear BAD GOOD FIT T q1
    go_wp2
    go_ret
    exact⟨by rw[zu F];rfl,(zu S2).b⟩
   have hq1:(K1 !=1)=false:=by simp[q1]
   have Q1:=zh q1
   clear q1
   go_wp2_with fail
   refine(sKindA _ x y2 K2 (zu S2).r (zu L).1 (zu N2)).mono ?_
   rintro e v2 ⟨rfl,bb⟩
   have S3:=zh ((zu S2).step bb)
   replace f2:v2.cell? ⟨wr.heap.size,2,none⟩=some (.int .i64 y2):=(bb.cell (p:=⟨wr.heap.size,2,none⟩) z1).trans f2
   replace f3:v2.cell? ⟨wr.heap.size,3,none⟩=some (.int .i64 y3):=(bb.cell (p:=⟨wr.heap.size,3,none⟩) z1).trans f3
   replace f5:v2.cell? ⟨wr.heap.size,5,none⟩=some (.int .i64 y5):=(bb.cell (p:=⟨wr.heap.size,5,none⟩) z1).trans f5
   have z2:wr.heap.size<v2.heap.size:=Nat.lt_of_lt_of_le z1 bb.size
   clear bb c0 c1 c2 c3 c4 c5
   obtain⟨c0,c1,c2,c3,c4,c5⟩:=(zu S3).c
   by_cases q2:K2=1
   rotate_left
   ·have F:=zh ((zu BAD) (fun hh=>q2 ((zu FIT).1 hh).2.1))
    have hq:(K2 !=1)=true:=by simp[q2]
    clear BAD GOOD FIT T q2
    go_wp2
    go_ret
    exact⟨by rw[zu F];rfl,(zu S3).b⟩
   have hq2:(K2 !=1)=false:=by simp[q2]
   have Q2:=zh q2
   clear q2
   go_wp2_with fail
   refine(sKindI _ x y3 K3 (zu S3).r (zu L).2.1 (zu N3)).mono ?_
   rintro e v3 ⟨rfl,bb⟩
   have S4:=zh ((zu S3).step bb)
   replace f2:v3.cell? ⟨wr.heap.size,2,none⟩=some (.int .i64 y2):=(bb.cell (p:=⟨wr.heap.size,2,none⟩) z2).trans f2
   replace f3:v3.cell? ⟨wr.heap.size,3,none⟩=some (.int .i64 y3):=(bb.cell (p:=⟨wr.heap.size,3,none⟩) z2).trans f3
   replace f5:v3.cell? ⟨wr.heap.size,5,none⟩=some (.int .i64 y5):=(bb.cell (p:=⟨wr.heap.size,5,none⟩) z2).trans f5
   have z3:wr.heap.size<v3.heap.size:=Nat.lt_of_lt_of_le z2 bb.size
   clear bb c0 c1 c2 c3 c4 c5
   obtain⟨c0,c1,c2,c3,c4,c5⟩:=(zu S4).c
   by_cases q3:K3=2
   rotate_left
   ·have F:=zh ((zu BAD) (fun hh=>q3 ((zu FIT).1 hh).2.2.1))
    have hq:(K3 !=2)=true:=by simp[q3]
    clear BAD GOOD FIT T q3
    go_wp2
    go_ret
    exact⟨by rw[zu F];rfl,(zu S4).b⟩
   have hq3:(K3 !=2)=false:=by simp[q3]
   have Q3:=zh q3
   clear q3
   go_wp2_with fail
   refine(sKindI _ x y5 K4 (zu S4).r (zu L).2.1 (zu N4)).mono ?_
   rintro e v4 ⟨rfl,bb⟩
   have S5:=zh ((zu S4).step bb)
   clear bb c0 c1 c2 c3 c4 c5
   obtain⟨c0,c1,c2,c3,c4,c5⟩:=(zu S5).c
   by_cases q4:K4=1
   rotate_left
   ·have F:=zh ((zu BAD) (fun hh=>q4 ((zu FIT).1 hh).2.2.2))
    have hq:(K4 !=1)=true:=by simp[q4]
    clear BAD GOOD FIT T q4
    go_wp2
    go_ret
    exact⟨by rw[zu F];rfl,(zu S5).b⟩
   have hq4:(K4 !=1)=false:=by simp[q4]
   have Q4:=zh q4
   clear q4
   have G:=zh ((zu GOOD) ((zu FIT).2 ⟨zu Q1,zu Q2,zu Q3,zu Q4⟩))
   clear BAD GOOD FIT
   go_wp2
   go_roundw
   case rel=>exact⟨k+1,by omega,by go_num,zu S5,G⟩
   case measure=>simp[intOf];omega
  ·have F:=zh ((zu T).of ⟨zu L,(zu H6).yes,(zu H7).yes,fun j hj=>(zu HG) j (by omega)⟩)
   have S1:=zh hS
   clear hS
   go_wp2
   go_ret
   exact⟨by rw[zu F];rfl,(zu S1).b⟩
end SBooksOk
namespace IBooksOk
open BMem Bks IRead IHave ITrade ILists IBalsFit ILotsFit ITradesFit
open Lots (Says says_of NoOk)
theorem iBooksOk(w:World)(x:Bx)(b:Bool)(h:Rd w x)(hb:Says b (Ok x.b)):
  Calls Tryz.prog 36 #[.agg #[.slice (some ⟨x.ga,0,none⟩) x.b.ac.length x.ca,.slice (some ⟨x.gi,0,none⟩) x.b.ic.length x.ci,.slice (some ⟨x.gb,0,none⟩) x.b.bs.length x.cb,.slice (some ⟨x.gl,0,none⟩) x.b.ls.length x.cl,.slice (some ⟨x.gt,0,none⟩) x.b.ts.length x.ct,.int .i64 x.b.lot]] w fun e w'=>e= .returned (.bool b)∧Below w.heap.size w w':=by
 have T:=zh hb
 have S0:=zh (St.start h 45)
 obtain⟨b0,h0⟩:=says_of (Lists x.b)
 obtain⟨b1,h1⟩:=says_of (BalsFit x.b)
 obtain⟨b2,h2⟩:=says_of (LotsFit x.b)
 obtain⟨b3,h3⟩:=says_of (TradesFit x.b)
 have H0:=zh h0
 have H1:=zh h1
 have H2:=zh h2
 have H3:=zh h3
 clear hb h h0 h1 h2 h3
 go_enter Tryz.func36,Tryz.ntmps36
 go_wp2_with fail
 refine(iLists _ x b0 (zu S0).r (zu H0)).mono ?_
 rintro e w1 ⟨rfl,bb⟩
 have S1:=zh ((zu S0).step bb)
 clear bb
 obtain⟨c0,c1,c2,c3,c4,c5⟩:=(zu S1).c
 cases b0
 ·have F:=zh ((zu T).not (fun hh=>(zu H0).no hh.1))
  clear T
  go_wp2
  go_ret
  exact⟨by rw[zu F];rfl,(zu S1).b⟩
 go_wp2_with fail
 refine(iBalsFit _ x b1 (zu S1).r (zu H0).yes (zu H1)).mono ?_
 rintro e w2 ⟨rfl,bb⟩
 have S2:=zh ((zu S1).step bb)
 clear bb
 clear c0 c1 c2 c3 c4 c5
 obtain⟨c0,c1,c2,c3,c4,c5⟩:=(zu S2).c
 cases b1
 ·have F:=zh ((zu T).not (fun hh=>(zu H1).no hh.2.1))
  clear T
  go_wp2
  go_ret
  exact⟨by rw[zu F];rfl,(zu S2).b⟩
 go_wp2_with fail
 refine(iLotsFit _ x b2 (zu S2).r (zu H0).yes (zu H2)).mono ?_
 rintro e w3 ⟨rfl,bb⟩
 have S3:=zh ((zu S2).step bb)
 clear bb
 clear c0 c1 c2 c3 c4 c5
 obtain⟨c0,c1,c2,c3,c4,c5⟩:=(zu S3).c
 cases b2
 ·have F:=zh ((zu T).not (fun hh=>(zu H2).no hh.2.2.1))
  clear T
  go_wp2
  go_ret
  exact⟨by rw[zu F];rfl,(zu S3).b⟩
 go_wp2_with fail
 refine(iTradesFit _ x b3 (zu S3).r (zu H0).yes (zu H3)).mono ?_
 rintro e w4 ⟨rfl,bb⟩
 have S4:=zh ((zu S3).step bb)
 clear bb
 clear c0 c1 c2 c3 c4 c5
 obtain⟨c0,c1,c2,c3,c4,c5⟩:=(zu S4).c
 cases b3
 ·have F:=zh ((zu T).not (fun hh=>(zu H3).no hh.2.2.2))
  clear T
  go_wp2
  go_ret
  exact⟨by rw[zu F];rfl,(zu S4).b⟩
 have F:=zh ((zu T).of ⟨(zu H0).yes,(zu H1).yes,(zu H2).yes,(zu H3).yes⟩)
 clear T
 go_wp2
 go_ret
 exact⟨by rw[zu F];rfl,(zu S4).b⟩
end IBooksOk
namespace IReadV13
open BMem Bks BHelp BMemV13
open IBalsFit (one_more all_one)
open IRead (enters beq_of FirstAt iContainsF)
open Lots (Says says_of NoOk)
theorem chart0Account(w:World)(a:Option Addr)(cap:Nat):Calls Tryz.prog 182 #[.slice a 0 cap] w fun e w'=>e= .returned (.agg #[.slice a 0 cap,.int .i64 20,.int .i64 4])∧Below w.heap.size w w':=by
 go_enter Tryz.func182,Tryz.ntmps182
 go_wp2
 refine bodyPost_ret (v:= .agg #[.slice a 0 cap,.int .i64 20,.int .i64 4]) (by simp[results,Tryz.results182,go_sem]) rfl ⟨rfl,?_⟩
 repeat(first|exact Below.refl _ _|refine Below.alloc ?_ (by simp;try omega) _)
theorem ok0Account(w:World)(a:Option Addr)(cap:Nat):Calls Tryz.prog 183 #[.agg #[.slice a 0 cap,.int .i64 20,.int .i64 4]] w fun e w'=>e= .returned (.bool true)∧Below w.heap.size w w':=by
 have B0:=zh (one_more w (.cells #[.slice a 0 cap,.int .i64 20,.int .i64 4] 208))
 go_enter Tryz.func183,Tryz.ntmps183
 go_wp2
 go_loopw [3,16] (fun _ i wr=>i= .int .i64 0∧Hid (Below w.heap.size w wr)) (fun _ _ _=>0)
 case atStart=>exact⟨rfl,B0⟩
 case round=>
  obtain⟨rfl,HB⟩:=hrel
  go_wp2
  go_ret
  exact⟨rfl,zu HB⟩
theorem search0Account(w:World)(a:Option Addr)(cap:Nat)(no:Int):
  Calls Tryz.prog 265 #[.slice a 0 cap,.int .i64 no,.func (.func 266) #[] #[]] w fun e w'=>e= .returned (.tuple #[.int .i64 0,.bool false])∧w'=w:=by
 go_enter Tryz.func265,Tryz.ntmps265
 go_wp2
 go_loopw [9,10] (fun p q wr=>p= .int .i64 0∧q= .int .i64 0∧wr=w) (fun _ _ _=>0)
 case atStart=>exact⟨rfl,rfl,rfl⟩
 case round=>
  obtain⟨rfl,rfl,rfl⟩:=hrel
  go_wp2
  go_ret2
  exact⟨rfl,rfl⟩
theorem place0Account(w:World)(a:Option Addr)(cap:Nat)(no:Int):
  Calls Tryz.prog 238 #[.agg #[.slice a 0 cap,.int .i64 20,.int .i64 4],.int .i64 no] w fun e w'=>e= .returned (.tuple #[.int .i64 0,.bool false])∧Below w.heap.size w w':=by
 have B0:=zh (one_more w (.cells #[.slice a 0 cap,.int .i64 20,.int .i64 4] 208))
 go_enter Tryz.func238,Tryz.ntmps238
 go_wp2_with fail
 refine(search0Account _ a cap no).mono ?_
 rintro e w1 ⟨rfl,rfl⟩
 go_wp2
 go_ret2
 exact⟨rfl,zu B0⟩
theorem kindOf0Account(w:World)(a:Option Addr)(cap:Nat)(no:Int):
  Calls Tryz.prog 221 #[.agg #[.slice a 0 cap,.int .i64 20,.int .i64 4],.int .i64 no] w fun e w'=>e= .returned (.int .i64 0)∧Below w.heap.size w w':=by
 have B0:=zh (one_more w (.cells #[.slice a 0 cap,.int .i64 20,.int .i64 4] 208))
 go_enter Tryz.func221,Tryz.ntmps221
 go_wp2_with fail
 refine(ok0Account _ a cap).mono ?_
 rintro e w1 ⟨rfl,b1⟩
 have c0:w1.cell? ⟨w.heap.size,0,none⟩=some (.slice a 0 cap):=(b1.cell (p:=⟨w.heap.size,0,none⟩) (by simp)).trans (by simp)
 have c1:w1.cell? ⟨w.heap.size,1,none⟩=some (.int .i64 20):=(b1.cell (p:=⟨w.heap.size,1,none⟩) (by simp)).trans (by simp)
 have c2:w1.cell? ⟨w.heap.size,2,none⟩=some (.int .i64 4):=(b1.cell (p:=⟨w.heap.size,2,none⟩) (by simp)).trans (by simp)
 have B1:=zh (next (zu B0) b1)
 clear b1
 go_wp2_with fail
 refine(place0Account _ a cap no).mono ?_
 rintro e w2 ⟨rfl,b2⟩
 have B2:=zh (next (zu B1) b2)
 clear b2 c0 c1 c2
 go_wp2
 go_ret
 exact⟨rfl,zu B2⟩
theorem kind0Account(w:World)(a:Option Addr)(cap:Nat)(no:Int):
  Calls Tryz.prog 194 #[.slice a 0 cap,.int .i64 no] w fun e w'=>e= .returned (.int .i64 0)∧Below w.heap.size w w':=by
 go_enter Tryz.func194,Tryz.ntmps194
 go_wp2_with fail
 refine(chart0Account _ a cap).mono ?_
 rintro e w1 ⟨rfl,b1⟩
 have B1:=zh b1
 clear b1
 go_wp2_with fail
 refine(kindOf0Account _ a cap no).mono ?_
 rintro e w2 ⟨rfl,b2⟩
 have B2:=zh (next (zu B1) b2)
 clear b2
 go_wp2
 go_ret
 exact⟨rfl,zu B2⟩
theorem oks0Account(w:World)(a:Option Addr)(cap:Nat):
  Calls Tryz.prog 147 #[.slice a 0 cap] w fun e w'=>e= .returned (.bool true)∧Below w.heap.size w w':=by
 go_enter Tryz.func147,Tryz.ntmps147
 go_wp2_with fail
 refine(chart0Account _ a cap).mono ?_
 rintro e w1 ⟨rfl,b1⟩
 have B1:=zh b1
 clear b1
 go_wp2_with fail
 refine(ok0Account _ a cap).mono ?_
 rintro e w2 ⟨rfl,b2⟩
 have B2:=zh (next (zu B1) b2)
 clear b2
 go_wp2
 go_ret
 exact⟨rfl,zu B2⟩
theorem chart0Instr(w:World)(a:Option Addr)(cap:Nat):Calls Tryz.prog 184 #[.slice a 0 cap] w fun e w'=>e= .returned (.agg #[.slice a 0 cap,.int .i64 8,.int .i64 2])∧Below w.heap.size w w':=by
 go_enter Tryz.func184,Tryz.ntmps184
 go_wp2
 refine bodyPost_ret (v:= .agg #[.slice a 0 cap,.int .i64 8,.int .i64 2]) (by simp[results,Tryz.results184,go_sem]) rfl ⟨rfl,?_⟩
 repeat(first|exact Below.refl _ _|refine Below.alloc ?_ (by simp;try omega) _)
theorem ok0Instr(w:World)(a:Option Addr)(cap:Nat):Calls Tryz.prog 185 #[.agg #[.slice a 0 cap,.int .i64 8,.int .i64 2]] w fun e w'=>e= .returned (.bool true)∧Below w.heap.size w w':=by
 have B0:=zh (one_more w (.cells #[.slice a 0 cap,.int .i64 8,.int .i64 2] 211))
 go_enter Tryz.func185,Tryz.ntmps185
 go_wp2
 go_loopw [3,16] (fun _ i wr=>i= .int .i64 0∧Hid (Below w.heap.size w wr)) (fun _ _ _=>0)
 case atStart=>exact⟨rfl,B0⟩
 case round=>
  obtain⟨rfl,HB⟩:=hrel
  go_wp2
  go_ret
  exact⟨rfl,zu HB⟩
theorem search0Instr(w:World)(a:Option Addr)(cap:Nat)(no:Int):
  Calls Tryz.prog 267 #[.slice a 0 cap,.int .i64 no,.func (.func 268) #[] #[]] w fun e w'=>e= .returned (.tuple #[.int .i64 0,.bool false])∧w'=w:=by
 go_enter Tryz.func267,Tryz.ntmps267
 go_wp2
 go_loopw [9,10] (fun p q wr=>p= .int .i64 0∧q= .int .i64 0∧wr=w) (fun _ _ _=>0)
 case atStart=>exact⟨rfl,rfl,rfl⟩
 case round=>
  obtain⟨rfl,rfl,rfl⟩:=hrel
  go_wp2
  go_ret2
  exact⟨rfl,rfl⟩
theorem place0Instr(w:World)(a:Option Addr)(cap:Nat)(no:Int):
  Calls Tryz.prog 239 #[.agg #[.slice a 0 cap,.int .i64 8,.int .i64 2],.int .i64 no] w fun e w'=>e= .returned (.tuple #[.int .i64 0,.bool false])∧Below w.heap.size w w':=by
 have B0:=zh (one_more w (.cells #[.slice a 0 cap,.int .i64 8,.int .i64 2] 211))
 go_enter Tryz.func239,Tryz.ntmps239
 go_wp2_with fail
 refine(search0Instr _ a cap no).mono ?_
 rintro e w1 ⟨rfl,rfl⟩
 go_wp2
 go_ret2
 exact⟨rfl,zu B0⟩
theorem kindOf0Instr(w:World)(a:Option Addr)(cap:Nat)(no:Int):
  Calls Tryz.prog 222 #[.agg #[.slice a 0 cap,.int .i64 8,.int .i64 2],.int .i64 no] w fun e w'=>e= .returned (.int .i64 0)∧Below w.heap.size w w':=by
 have B0:=zh (one_more w (.cells #[.slice a 0 cap,.int .i64 8,.int .i64 2] 211))
 go_enter Tryz.func222,Tryz.ntmps222
 go_wp2_with fail
 refine(ok0Instr _ a cap).mono ?_
 rintro e w1 ⟨rfl,b1⟩
 have c0:w1.cell? ⟨w.heap.size,0,none⟩=some (.slice a 0 cap):=(b1.cell (p:=⟨w.heap.size,0,none⟩) (by simp)).trans (by simp)
 have c1:w1.cell? ⟨w.heap.size,1,none⟩=some (.int .i64 8):=(b1.cell (p:=⟨w.heap.size,1,none⟩) (by simp)).trans (by simp)
 have c2:w1.cell? ⟨w.heap.size,2,none⟩=some (.int .i64 2):=(b1.cell (p:=⟨w.heap.size,2,none⟩) (by simp)).trans (by simp)
 have B1:=zh (next (zu B0) b1)
 clear b1
 go_wp2_with fail
 refine(place0Instr _ a cap no).mono ?_
 rintro e w2 ⟨rfl,b2⟩
 have B2:=zh (next (zu B1) b2)
 clear b2 c0 c1 c2
 go_wp2
 go_ret
 exact⟨rfl,zu B2⟩
theorem kind0Instr(w:World)(a:Option Addr)(cap:Nat)(no:Int):
  Calls Tryz.prog 196 #[.slice a 0 cap,.int .i64 no] w fun e w'=>e= .returned (.int .i64 0)∧Below w.heap.size w w':=by
 go_enter Tryz.func196,Tryz.ntmps196
 go_wp2_with fail
 refine(chart0Instr _ a cap).mono ?_
 rintro e w1 ⟨rfl,b1⟩
 have B1:=zh b1
 clear b1
 go_wp2_with fail
 refine(kindOf0Instr _ a cap no).mono ?_
 rintro e w2 ⟨rfl,b2⟩
 have B2:=zh (next (zu B1) b2)
 clear b2
 go_wp2
 go_ret
 exact⟨rfl,zu B2⟩
theorem oks0Instr(w:World)(a:Option Addr)(cap:Nat):
  Calls Tryz.prog 148 #[.slice a 0 cap] w fun e w'=>e= .returned (.bool true)∧Below w.heap.size w w':=by
 go_enter Tryz.func148,Tryz.ntmps148
 go_wp2_with fail
 refine(chart0Instr _ a cap).mono ?_
 rintro e w1 ⟨rfl,b1⟩
 have B1:=zh b1
 clear b1
 go_wp2_with fail
 refine(ok0Instr _ a cap).mono ?_
 rintro e w2 ⟨rfl,b2⟩
 have B2:=zh (next (zu B1) b2)
 clear b2
 go_wp2
 go_ret
 exact⟨rfl,zu B2⟩
theorem oks0Bal(w:World)(a:Option Addr)(cap:Nat):Calls Tryz.prog 149 #[.slice a 0 cap] w fun e w'=>e= .returned (.bool true)∧Below w.heap.size w w':=by
 go_enter Tryz.func149,Tryz.ntmps149
 go_wp2
 go_loopw [5,6,13] (fun _ _ i wr=>i= .int .i64 0∧Below w.heap.size w wr) (fun _ _ _ _=>0)
 case atStart=>exact⟨rfl,one_more _ _⟩
 case round=>
  obtain⟨rfl,HB⟩:=hrel
  go_wp2
  go_ret
  exact⟨rfl,HB⟩
theorem oks0Lot(w:World)(a:Option Addr)(cap:Nat):Calls Tryz.prog 150 #[.slice a 0 cap] w fun e w'=>e= .returned (.bool true)∧Below w.heap.size w w':=by
 go_enter Tryz.func150,Tryz.ntmps150
 go_wp2
 go_loopw [4,5,7,14] (fun _ _ _ i wr=>i= .int .i64 0∧Below w.heap.size w wr) (fun _ _ _ _ _=>0)
 case atStart=>exact⟨rfl,one_more _ _⟩
 case round=>
  obtain⟨rfl,HB⟩:=hrel
  go_wp2
  go_ret
  exact⟨rfl,HB⟩
theorem oks0Trade(w:World)(a:Option Addr)(cap:Nat):Calls Tryz.prog 151 #[.slice a 0 cap] w fun e w'=>e= .returned (.bool true)∧Below w.heap.size w w':=by
 go_enter Tryz.func151,Tryz.ntmps151
 go_wp2
 go_loopw [3,11] (fun _ i wr=>i= .int .i64 0∧Below w.heap.size w wr) (fun _ _ _=>0)
 case atStart=>exact⟨rfl,Below.refl _ _⟩
 case round=>
  obtain⟨rfl,HB⟩:=hrel
  go_wp2
  go_ret
  exact⟨rfl,HB⟩
theorem sum0(w:World)(a:Option Addr)(cap:Nat)(i:Int):Calls Tryz.prog 155 #[.slice a 0 cap,.int .i64 i] w fun e w'=>e= .returned (.tuple #[.int .i64 0,.bool true])∧Below w.heap.size w w':=by
 go_enter Tryz.func155,Tryz.ntmps155
 go_wp2_with fail
 refine(oks0Bal _ a cap).mono ?_
 rintro e w1 ⟨rfl,b1⟩
 have B1:=zh b1
 clear b1
 go_wp2
 go_loopw [6,8,14] (fun s _ j wr=>s= .int .i64 0∧j= .int .i64 0∧Hid (Below w.heap.size w wr)) (fun _ _ _ _=>0)
 case atStart=>exact⟨rfl,rfl,B1⟩
 case round=>
  obtain⟨rfl,rfl,HB⟩:=hrel
  go_wp2_with fail
  refine(Look.iOnly 0 true 0 _ (.inl ⟨by unfold Bals.Amt;omega,rfl,rfl⟩)).mono ?_
  rintro e w3 ⟨rfl,rfl⟩
  go_wp2
  go_ret2
  exact⟨rfl,zu HB⟩
theorem index0(w:World)(a:Option Addr)(cap K:Nat)(caps:Array Value):Calls Tryz.prog 200 #[.slice a 0 cap,.func (.func K) #[] caps] w fun e w'=>e= .returned (.int .i64 (-1))∧w'=w:=by
 go_enter Tryz.func200,Tryz.ntmps200
 go_wp2
 go_loopw [8] (fun i wr=>i= .int .i64 0∧wr=w) (fun _ _=>0)
 case atStart=>exact⟨rfl,rfl⟩
 case round=>
  obtain⟨rfl,rfl⟩:=hrel
  go_wp2
  go_ret
  exact⟨rfl,rfl⟩
theorem contains0(w:World)(a:Option Addr)(cap K:Nat)(caps:Array Value):Calls Tryz.prog 159 #[.slice a 0 cap,.func (.func K) #[] caps] w fun e w'=>e= .returned (.bool false)∧w'=w:=by
 go_enter Tryz.func159,Tryz.ntmps159
 go_wp2_with fail
 refine(index0 _ a cap K caps).mono ?_
 rintro e w1 ⟨rfl,rfl⟩
 go_wp2
 go_ret
 exact⟨rfl,rfl⟩
theorem iKindA(w:World)(x:Ix)(no k:Int)(h:RdV w x)(hr:Chart.Right 20 4 x.b.ac)(hk:kindOf x.b.ac no=k):
  Calls Tryz.prog 194 #[.slice x.aa x.b.ac.length x.ca,.int .i64 no] w fun e w'=>e= .returned (.int .i64 k)∧Below w.heap.size w w':=by
 by_cases z:x.b.ac.length=0
 ·rw[z]
  have e:k=0:=by rw[←hk,List.eq_nil_of_length_eq_zero z];rfl
  exact(kind0Account w x.aa x.ca no).mono fun e' w' ⟨h1,h2⟩=>⟨by rw[h1,e],h2⟩
 ·obtain⟨g,eg⟩:=h.ea z
  rw[eg]
  exact(AccountIKind.iKind w g _ x.ca x.b.ac no rfl h.na (h.ra g eg).1 (h.ra g eg).2).mono fun e w' ⟨r',h1,h2,h3⟩=>⟨by rw[h2,kind_is hr h1,hk],h3⟩
theorem iKindI(w:World)(x:Ix)(no k:Int)(h:RdV w x)(hr:Chart.Right 8 2 x.b.ic)(hk:kindOf x.b.ic no=k):
  Calls Tryz.prog 196 #[.slice x.ai x.b.ic.length x.ci,.int .i64 no] w fun e w'=>e= .returned (.int .i64 k)∧Below w.heap.size w w':=by
 by_cases z:x.b.ic.length=0
 ·rw[z]
  have e:k=0:=by rw[←hk,List.eq_nil_of_length_eq_zero z];rfl
  exact(kind0Instr w x.ai x.ci no).mono fun e' w' ⟨h1,h2⟩=>⟨by rw[h1,e],h2⟩
 ·obtain⟨g,eg⟩:=h.ei z
  rw[eg]
  exact(InstrIKind.iKind w g _ x.ci x.b.ic no rfl h.ni (h.ri g eg).1 (h.ri g eg).2).mono fun e w' ⟨r',h1,h2,h3⟩=>⟨by rw[h2,kind_is hr h1,hk],h3⟩
theorem iOksA(w:World)(x:Ix)(ok:Bool)(h:RdV w x)(hok:Chart.Says ok 20 4 x.b.ac):Calls Tryz.prog 147 #[.slice x.aa x.b.ac.length x.ca] w fun e w'=>e= .returned (.bool ok)∧Below w.heap.size w w':=by
 by_cases z:x.b.ac.length=0
 ·rw[z]
  have e:ok=true:=hok.2 ⟨by omega,fun i hi=>absurd hi (by omega)⟩
  exact(oks0Account w x.aa x.ca).mono fun e' w' ⟨h1,h2⟩=>⟨by rw[h1,e],h2⟩
 ·obtain⟨g,eg⟩:=h.ea z
  rw[eg]
  exact AccountIKind.iOks w g _ x.ca x.b.ac ok rfl h.na (h.ra g eg).1 (h.ra g eg).2 hok
theorem iOksI(w:World)(x:Ix)(ok:Bool)(h:RdV w x)(hok:Chart.Says ok 8 2 x.b.ic):Calls Tryz.prog 148 #[.slice x.ai x.b.ic.length x.ci] w fun e w'=>e= .returned (.bool ok)∧Below w.heap.size w w':=by
 by_cases z:x.b.ic.length=0
 ·rw[z]
  have e:ok=true:=hok.2 ⟨by omega,fun i hi=>absurd hi (by omega)⟩
  exact(oks0Instr w x.ai x.ci).mono fun e' w' ⟨h1,h2⟩=>⟨by rw[h1,e],h2⟩
 ·obtain⟨g,eg⟩:=h.ei z
  rw[eg]
  exact InstrIKind.iOks w g _ x.ci x.b.ic ok rfl h.ni (h.ri g eg).1 (h.ri g eg).2 hok
theorem iOksB(w:World)(x:Ix)(ok:Bool)(h:RdV w x)(hok:Bals.Says ok (Bals.Right x.b.bs)):Calls Tryz.prog 149 #[.slice x.ab x.b.bs.length x.cb] w fun e w'=>e= .returned (.bool ok)∧Below w.heap.size w w':=by
 by_cases z:x.b.bs.length=0
 ·rw[z]
  have e:ok=true:=hok.of ⟨by omega,fun i hi=>absurd hi (by omega)⟩
  exact(oks0Bal w x.ab x.cb).mono fun e' w' ⟨h1,h2⟩=>⟨by rw[h1,e],h2⟩
 ·obtain⟨g,eg⟩:=h.eb z
  rw[eg]
  exact IOk3.iOk w g _ x.cb x.b.bs ok rfl h.nb (h.rb g eg).1 (h.rb g eg).2 hok
theorem iOksL(w:World)(x:Ix)(ok:Bool)(h:RdV w x)(hok:Says ok (Lots.Right x.b.ls)):Calls Tryz.prog 150 #[.slice x.al x.b.ls.length x.cl] w fun e w'=>e= .returned (.bool ok)∧Below w.heap.size w w':=by
 by_cases z:x.b.ls.length=0
 ·rw[z]
  have e:ok=true:=hok.of ⟨by omega,fun i hi=>absurd hi (by omega),fun a i=>by rw[List.eq_nil_of_length_eq_zero z];simp[Lots.qtyOf,Lots.costOf]⟩
  exact(oks0Lot w x.al x.cl).mono fun e' w' ⟨h1,h2⟩=>⟨by rw[h1,e],h2⟩
 ·obtain⟨g,eg⟩:=h.el z
  rw[eg]
  exact IOk5.iOk w g _ x.cl x.b.ls ok rfl h.nl (h.rl g eg).1 (h.rl g eg).2 hok
theorem iOksT(w:World)(x:Ix)(ok:Bool)(h:RdV w x)(hok:Says ok (TRight x.b.ts)):Calls Tryz.prog 151 #[.slice x.ats x.b.ts.length x.ct] w fun e w'=>e= .returned (.bool ok)∧Below w.heap.size w w':=by
 by_cases z:x.b.ts.length=0
 ·rw[z]
  have e:ok=true:=hok.of ⟨by omega,fun i hi=>absurd hi (by omega)⟩
  exact(oks0Trade w x.ats x.ct).mono fun e' w' ⟨h1,h2⟩=>⟨by rw[h1,e],h2⟩
 ·obtain⟨g,eg⟩:=h.et z
  rw[eg]
  exact ITrade.iOk w g _ x.ct x.b.ts ok rfl h.nt (h.rt g eg).1 (h.rt g eg).2 hok
theorem iSumV(w:World)(x:Ix)(i r:Int)(c:Bool)(h:RdV w x)(hs:Bals.IsSum x.b.bs i r c):
  Calls Tryz.prog 155 #[.slice x.ab x.b.bs.length x.cb,.int .i64 i] w fun e w'=>e= .returned (.tuple #[.int .i64 r,.bool c])∧Below w.heap.size w w':=by
 by_cases z:x.b.bs.length=0
 ·rw[z]
  have e:r=0∧c=true:=by
   rw[List.eq_nil_of_length_eq_zero z] at hs
   rcases hs with⟨_,_,h3,h4⟩|⟨h1,_⟩
   ·exact⟨h3,h4⟩
   ·exact absurd ⟨⟨by simp,fun i hi=>absurd hi (by simp)⟩,by unfold Bals.Amt;simp[Bals.sumI]⟩ h1
  exact(sum0 w x.ab x.cb i).mono fun e' w' ⟨h1,h2⟩=>⟨by rw[h1,e.1,e.2],h2⟩
 ·obtain⟨g,eg⟩:=h.eb z
  rw[eg]
  exact Look.iSum w g _ x.cb x.b.bs i r c rfl h.nb (h.rb g eg).1 (h.rb g eg).2 hs
end IReadV13
namespace IHaveV13
open IHave (none_of noneB none_no)
open IReadV13
open BMem Bks BHelp BMemV13
open IBalsFit (one_more all_one)
open IRead (enters beq_of FirstAt iContainsF)
open Lots (Says says_of NoOk)
theorem iHolder(w:World)(x:Ix)(no:Int)(t:Bool)(h:RdV w x)(hr:Chart.Right 20 4 x.b.ac)(ht:Says t (kindOf x.b.ac no=1)):
  Calls Tryz.prog 154 #[.agg #[.slice x.aa x.b.ac.length x.ca,.slice x.ai x.b.ic.length x.ci,.slice x.ab x.b.bs.length x.cb,.slice x.al x.b.ls.length x.cl,.slice x.ats x.b.ts.length x.ct,.int .i64 x.b.lot],.int .i64 no] w fun e w'=>e= .returned (.bool t)∧Below w.heap.size w w':=by
 have H:=zh (h.below (one_more w (.cells #[.slice x.aa x.b.ac.length x.ca,.slice x.ai x.b.ic.length x.ci,.slice x.ab x.b.bs.length x.cb,.slice x.al x.b.ls.length x.cl,.slice x.ats x.b.ts.length x.ct,.int .i64 x.b.lot] 45)))
 have KA:=zh (fun u (hu:RdV u x)=>iKindA u x no (kindOf x.b.ac no) hu hr rfl)
 have hd:(kindOf x.b.ac no==1)=t:=beq_of ht
 clear h hr ht
 generalize kindOf x.b.ac no=r at *
 go_enter Tryz.func154,Tryz.ntmps154
 go_wp2_with fail
 refine((zu KA) _ (zu H)).mono ?_
 rintro e w1 ⟨rfl,b1⟩
 have B1:=zh (((Below.refl w.heap.size w).alloc (Nat.le_refl _) _).trans (b1.mono (by simp)))
 clear b1
 go_wp2
 go_ret
 exact⟨rfl,zu B1⟩
theorem iPaper(w:World)(x:Ix)(no:Int)(t:Bool)(h:RdV w x)(hr:Chart.Right 8 2 x.b.ic)(ht:Says t (kindOf x.b.ic no=2)):
  Calls Tryz.prog 156 #[.agg #[.slice x.aa x.b.ac.length x.ca,.slice x.ai x.b.ic.length x.ci,.slice x.ab x.b.bs.length x.cb,.slice x.al x.b.ls.length x.cl,.slice x.ats x.b.ts.length x.ct,.int .i64 x.b.lot],.int .i64 no] w fun e w'=>e= .returned (.bool t)∧Below w.heap.size w w':=by
 have H:=zh (h.below (one_more w (.cells #[.slice x.aa x.b.ac.length x.ca,.slice x.ai x.b.ic.length x.ci,.slice x.ab x.b.bs.length x.cb,.slice x.al x.b.ls.length x.cl,.slice x.ats x.b.ts.length x.ct,.int .i64 x.b.lot] 45)))
 have KA:=zh (fun u (hu:RdV u x)=>iKindI u x no (kindOf x.b.ic no) hu hr rfl)
 have hd:(kindOf x.b.ic no==2)=t:=beq_of ht
 clear h hr ht
 generalize kindOf x.b.ic no=r at *
 go_enter Tryz.func156,Tryz.ntmps156
 go_wp2_with fail
 refine((zu KA) _ (zu H)).mono ?_
 rintro e w1 ⟨rfl,b1⟩
 have B1:=zh (((Below.refl w.heap.size w).alloc (Nat.le_refl _) _).trans (b1.mono (by simp)))
 clear b1
 go_wp2
 go_ret
 exact⟨rfl,zu B1⟩
theorem iCash(w:World)(x:Ix)(no:Int)(t:Bool)(h:RdV w x)(hr:Chart.Right 8 2 x.b.ic)(ht:Says t (kindOf x.b.ic no=1)):
  Calls Tryz.prog 201 #[.agg #[.slice x.aa x.b.ac.length x.ca,.slice x.ai x.b.ic.length x.ci,.slice x.ab x.b.bs.length x.cb,.slice x.al x.b.ls.length x.cl,.slice x.ats x.b.ts.length x.ct,.int .i64 x.b.lot],.int .i64 no] w fun e w'=>e= .returned (.bool t)∧Below w.heap.size w w':=by
 have H:=zh (h.below (one_more w (.cells #[.slice x.aa x.b.ac.length x.ca,.slice x.ai x.b.ic.length x.ci,.slice x.ab x.b.bs.length x.cb,.slice x.al x.b.ls.length x.cl,.slice x.ats x.b.ts.length x.ct,.int .i64 x.b.lot] 45)))
 have KA:=zh (fun u (hu:RdV u x)=>iKindI u x no (kindOf x.b.ic no) hu hr rfl)
 have hd:(kindOf x.b.ic no==1)=t:=beq_of ht
 clear h hr ht
 generalize kindOf x.b.ic no=r at *
 go_enter Tryz.func201,Tryz.ntmps201
 go_wp2_with fail
 refine((zu KA) _ (zu H)).mono ?_
 rintro e w1 ⟨rfl,b1⟩
 have B1:=zh (((Below.refl w.heap.size w).alloc (Nat.le_refl _) _).trans (b1.mono (by simp)))
 clear b1
 go_wp2
 go_ret
 exact⟨rfl,zu B1⟩
theorem iNoneAccount(w:World)(x:Ix)(g:Nat)(y:Int)(h:RdV w x)(hc:w.cell? ⟨g,0,none⟩=some (.slice x.aa x.b.ac.length x.ca))(hr:Chart.Right 20 4 x.b.ac):
  Calls Tryz.prog 193 (#[.int .i64 y]++ #[.pointer (some ⟨g,0,none⟩)]) w fun e w'=>e= .returned (.bool (noneB x.b.ac y))∧Below w.heap.size w w':=by
 show Calls Tryz.prog 193 #[.int .i64 y,.pointer (some ⟨g,0,none⟩)] w _
 have KA:=zh (iKindA w x y (kindOf x.b.ac y) h hr rfl)
 have hd:(kindOf x.b.ac y==0)=noneB x.b.ac y:=rfl
 clear h hr
 rw[←hd]
 clear hd
 generalize kindOf x.b.ac y=r at *
 go_enter Tryz.func193,Tryz.ntmps193
 go_wp2_with fail
 refine(zu KA).mono ?_
 rintro e w1 ⟨rfl,b1⟩
 have B1:=zh b1
 clear b1
 go_wp2
 go_ret
 exact⟨rfl,zu B1⟩
theorem iHaveAccounts(w:World)(x:Ix)(g n cap:Nat)(xs:List Int)(b:Bool)(h:RdV w x)(hr:Chart.Right 20 4 x.b.ac)(hl:xs.length=n)(h20:n≤1048576)(hg:g<w.heap.size)(hx:Ints.At w g xs)(hb:Says b (∀y∈xs,kindOf x.b.ac y≠0)):
  Calls Tryz.prog 152 #[.agg #[.slice x.aa x.b.ac.length x.ca,.slice x.ai x.b.ic.length x.ci,.slice x.ab x.b.bs.length x.cb,.slice x.al x.b.ls.length x.cl,.slice x.ats x.b.ts.length x.ct,.int .i64 x.b.lot],.slice (some ⟨g,0,none⟩) n cap] w fun e w'=>e= .returned (.bool b)∧Below w.heap.size w w':=by
 have H:=zh h
 have R:=zh hr
 have X:=zh hx
 have HL:=zh hl
 have T:=zh (none_of (none_no x.b.ac) hb)
 have hmf:∀(fn:Fn) (first cp:Array Value) (w:World),(Instr.makeFunc fn first cp).run Tryz.prog w= .ok (.func fn first cp) w:=fun _ _ _ _=>rfl
 clear h hr hx hl hb
 go_enter Tryz.func152,Tryz.ntmps152
 go_wp2_with fail
 have A1:Below w.heap.size w (w.alloc (.cells #[.slice x.aa x.b.ac.length x.ca,.slice x.ai x.b.ic.length x.ci,.slice x.ab x.b.bs.length x.cb,.slice x.al x.b.ls.length x.cl,.slice x.ats x.b.ts.length x.ct,.int .i64 x.b.lot] 45)):=(Below.refl _ _).alloc (Nat.le_refl _) _
 refine(iContainsF _ g n cap 193 #[.pointer (some ⟨w.heap.size,0,none⟩)] xs (noneB x.b.ac) (!b) (zu HL) h20 (by simp;omega) ((zu X).below A1 hg) (fun _ _=>enters Tryz.func193 (by kernel_rfl) rfl _ _) (fun u y hu=>iNoneAccount u x w.heap.size y (((zu H).below A1).below hu) ((hu.cell (p:=⟨w.heap.size,0,none⟩) (by simp)).trans (by simp)) (zu R)) (zu T)).mono ?_
 rintro e w1 ⟨rfl,b1⟩
 have B1:=zh (A1.trans (b1.mono (by simp)))
 clear b1 A1
 go_wp2
 go_ret
 exact⟨by simp,zu B1⟩
theorem iNoneInstr(w:World)(x:Ix)(g:Nat)(y:Int)(h:RdV w x)(hc:w.cell? ⟨g,1,none⟩=some (.slice x.ai x.b.ic.length x.ci))(hr:Chart.Right 8 2 x.b.ic):
  Calls Tryz.prog 195 (#[.int .i64 y]++ #[.pointer (some ⟨g,0,none⟩)]) w fun e w'=>e= .returned (.bool (noneB x.b.ic y))∧Below w.heap.size w w':=by
 show Calls Tryz.prog 195 #[.int .i64 y,.pointer (some ⟨g,0,none⟩)] w _
 have KA:=zh (iKindI w x y (kindOf x.b.ic y) h hr rfl)
 have hd:(kindOf x.b.ic y==0)=noneB x.b.ic y:=rfl
 clear h hr
 rw[←hd]
 clear hd
 generalize kindOf x.b.ic y=r at *
 go_enter Tryz.func195,Tryz.ntmps195
 go_wp2_with fail
 refine(zu KA).mono ?_
 rintro e w1 ⟨rfl,b1⟩
 have B1:=zh b1
 clear b1
 go_wp2
 go_ret
 exact⟨rfl,zu B1⟩
theorem iHaveInstrs(w:World)(x:Ix)(g n cap:Nat)(xs:List Int)(b:Bool)(h:RdV w x)(hr:Chart.Right 8 2 x.b.ic)(hl:xs.length=n)(h20:n≤1048576)(hg:g<w.heap.size)(hx:Ints.At w g xs)(hb:Says b (∀y∈xs,kindOf x.b.ic y≠0)):
  Calls Tryz.prog 153 #[.agg #[.slice x.aa x.b.ac.length x.ca,.slice x.ai x.b.ic.length x.ci,.slice x.ab x.b.bs.length x.cb,.slice x.al x.b.ls.length x.cl,.slice x.ats x.b.ts.length x.ct,.int .i64 x.b.lot],.slice (some ⟨g,0,none⟩) n cap] w fun e w'=>e= .returned (.bool b)∧Below w.heap.size w w':=by
 have H:=zh h
 have R:=zh hr
 have X:=zh hx
 have HL:=zh hl
 have T:=zh (none_of (none_no x.b.ic) hb)
 have hmf:∀(fn:Fn) (first cp:Array Value) (w:World),(Instr.makeFunc fn first cp).run Tryz.prog w= .ok (.func fn first cp) w:=fun _ _ _ _=>rfl
 clear h hr hx hl hb
 go_enter Tryz.func153,Tryz.ntmps153
 go_wp2_with fail
 have A1:Below w.heap.size w (w.alloc (.cells #[.slice x.aa x.b.ac.length x.ca,.slice x.ai x.b.ic.length x.ci,.slice x.ab x.b.bs.length x.cb,.slice x.al x.b.ls.length x.cl,.slice x.ats x.b.ts.length x.ct,.int .i64 x.b.lot] 45)):=(Below.refl _ _).alloc (Nat.le_refl _) _
 refine(iContainsF _ g n cap 195 #[.pointer (some ⟨w.heap.size,0,none⟩)] xs (noneB x.b.ic) (!b) (zu HL) h20 (by simp;omega) ((zu X).below A1 hg) (fun _ _=>enters Tryz.func195 (by kernel_rfl) rfl _ _) (fun u y hu=>iNoneInstr u x w.heap.size y (((zu H).below A1).below hu) ((hu.cell (p:=⟨w.heap.size,1,none⟩) (by simp)).trans (by simp)) (zu R)) (zu T)).mono ?_
 rintro e w1 ⟨rfl,b1⟩
 have B1:=zh (A1.trans (b1.mono (by simp)))
 clear b1 A1
 go_wp2
 go_ret
 exact⟨by simp,zu B1⟩
theorem boxedV13(w:World)(x:Ix)(e:TypeId):ClV (w.alloc (.cells #[.slice x.aa x.b.ac.length x.ca,.slice x.ai x.b.ic.length x.ci,.slice x.ab x.b.bs.length x.cb,.slice x.al x.b.ls.length x.cl,.slice x.ats x.b.ts.length x.ct,.int .i64 x.b.lot] e)) w.heap.size x:=⟨by simp,by simp,by simp,by simp,by simp,by simp⟩
theorem iLists(w:World)(x:Ix)(b:Bool)(h:RdV w x)(hb:Says b (Lists x.b)):
  Calls Tryz.prog 92 #[.agg #[.slice x.aa x.b.ac.length x.ca,.slice x.ai x.b.ic.length x.ci,.slice x.ab x.b.bs.length x.cb,.slice x.al x.b.ls.length x.cl,.slice x.ats x.b.ts.length x.ct,.int .i64 x.b.lot]] w fun e w'=>e= .returned (.bool b)∧Below w.heap.size w w':=by
 obtain⟨b0,h0⟩:=Chart.says_of 20 4 x.b.ac
 obtain⟨b1,h1⟩:=Chart.says_of 8 2 x.b.ic
 obtain⟨b2,h2⟩:=Bals.says_of (Bals.Right x.b.bs)
 obtain⟨b3,h3⟩:=says_of (Lots.Right x.b.ls)
 obtain⟨b4,h4⟩:=says_of (TRight x.b.ts)
 have H0:=zh h0
 have H1:=zh h1
 have H2:=zh h2
 have H3:=zh h3
 have H4:=zh h4
 have T:=zh hb
 clear h0 h1 h2 h3 h4 hb
 have R0:=zh (h.below (one_more w (.cells #[.slice x.aa x.b.ac.length x.ca,.slice x.ai x.b.ic.length x.ci,.slice x.ab x.b.bs.length x.cb,.slice x.al x.b.ls.length x.cl,.slice x.ats x.b.ts.length x.ct,.int .i64 x.b.lot] 45)))
 have C0:=zh (boxedV13 w x 45)
 have B0:=zh ((Below.refl w.heap.size w).alloc (Nat.le_refl _) (.cells #[.slice x.aa x.b.ac.length x.ca,.slice x.ai x.b.ic.length x.ci,.slice x.ab x.b.bs.length x.cb,.slice x.al x.b.ls.length x.cl,.slice x.ats x.b.ts.length x.ct,.int .i64 x.b.lot] 45))
 have s0:w.heap.size<(w.alloc (.cells #[.slice x.aa x.b.ac.length x.ca,.slice x.ai x.b.ic.length x.ci,.slice x.ab x.b.bs.length x.cb,.slice x.al x.b.ls.length x.cl,.slice x.ats x.b.ts.length x.ct,.int .i64 x.b.lot] 45)).heap.size:=by simp
 have na:=h.na
 have ni:=h.ni
 have nb:=h.nb
 have nl:=h.nl
 have nt:=h.nt
 clear h
 go_enter Tryz.func92,Tryz.ntmps92
 go_wp2_with fail
 refine(iOksA _ x b0 (zu R0) (zu H0)).mono ?_
 rintro e w1 ⟨rfl,bb⟩
 have R1:=zh ((zu R0).below bb)
 have C1:=zh ((zu C0).below bb s0)
 have B1:=zh ((zu B0).trans (bb.mono (Nat.le_of_lt s0)))
 have s1:w.heap.size<w1.heap.size:=Nat.lt_of_lt_of_le s0 bb.size
 have c1:=(zu C1).c1
 clear bb R0 C0 B0 s0
 cases b0
 ·have F:=zh ((zu T).not (fun hh=>(zu H0).no hh.1))
  clear T
  go_wp2
  go_ret
  exact⟨by rw[zu F];rfl,zu B1⟩
 go_wp2_with fail
 refine(iOksI _ x b1 (zu R1) (zu H1)).mono ?_
 rintro e w2 ⟨rfl,bb⟩
 have R2:=zh ((zu R1).below bb)
 have C2:=zh ((zu C1).below bb s1)
 have B2:=zh ((zu B1).trans (bb.mono (Nat.le_of_lt s1)))
 have s2:w.heap.size<w2.heap.size:=Nat.lt_of_lt_of_le s1 bb.size
 have c2:=(zu C2).c2
 clear bb R1 C1 B1 s1
 cases b1
 ·have F:=zh ((zu T).not (fun hh=>(zu H1).no hh.2.1))
  clear T
  go_wp2
  go_ret
  exact⟨by rw[zu F];rfl,zu B2⟩
 go_wp2_with fail
 refine(iOksB _ x b2 (zu R2) (zu H2)).mono ?_
 rintro e w3 ⟨rfl,bb⟩
 have R3:=zh ((zu R2).below bb)
 have C3:=zh ((zu C2).below bb s2)
 have B3:=zh ((zu B2).trans (bb.mono (Nat.le_of_lt s2)))
 have s3:w.heap.size<w3.heap.size:=Nat.lt_of_lt_of_le s2 bb.size
 have c3:=(zu C3).c3
 clear bb R2 C2 B2 s2
 cases b2
 ·have F:=zh ((zu T).not (fun hh=>(zu H2).no hh.2.2.1))
  clear T
  go_wp2
  go_ret
  exact⟨by rw[zu F];rfl,zu B3⟩
 go_wp2_with fail
 refine(iOksL _ x b3 (zu R3) (zu H3)).mono ?_
 rintro e w4 ⟨rfl,bb⟩
 have R4:=zh ((zu R3).below bb)
 have C4:=zh ((zu C3).below bb s3)
 have B4:=zh ((zu B3).trans (bb.mono (Nat.le_of_lt s3)))
 have s4:w.heap.size<w4.heap.size:=Nat.lt_of_lt_of_le s3 bb.size
 have c4:=(zu C4).c4
 clear bb R3 C3 B3 s3
 cases b3
 ·have F:=zh ((zu T).not (fun hh=>(zu H3).no hh.2.2.2.1))
  clear T
  go_wp2
  go_ret
  exact⟨by rw[zu F];rfl,zu B4⟩
 go_wp2_with fail
 refine(iOksT _ x b4 (zu R4) (zu H4)).mono ?_
 rintro e w5 ⟨rfl,bb⟩
 have R5:=zh ((zu R4).below bb)
 have C5:=zh ((zu C4).below bb s4)
 have B5:=zh ((zu B4).trans (bb.mono (Nat.le_of_lt s4)))
 have s5:w.heap.size<w5.heap.size:=Nat.lt_of_lt_of_le s4 bb.size
 have c5:=(zu C5).c5
 clear bb R4 C4 B4 s4
 cases b4
 ·have F:=zh ((zu T).not (fun hh=>(zu H4).no hh.2.2.2.2.1))
  clear T
  go_wp2
  go_ret
  exact⟨by rw[zu F];rfl,zu B5⟩
 by_cases d1:0≤x.b.lot
 ·have hd:decide (x.b.lot≤1000000000)=b:=by
   by_cases d2:x.b.lot≤1000000000
   ·rw[decide_eq_true d2]
    exact((zu T).of ⟨(zu H0).yes,(zu H1).yes,(zu H2).yes,(zu H3).yes,(zu H4).yes,d1,d2⟩).symm
   ·rw[decide_eq_false d2]
    exact((zu T).not (fun hh=>d2 hh.2.2.2.2.2.2)).symm
  clear T
  go_wp2
  go_ret
  exact⟨rfl,zu B5⟩
 ·have F:=zh ((zu T).not (fun hh=>d1 hh.2.2.2.2.2.1))
  have hd:decide (0≤x.b.lot)=false:=decide_eq_false d1
  clear T d1
  go_wp2
  go_ret
  exact⟨by rw[zu F];rfl,zu B5⟩
end IHaveV13
namespace IBalsFitV13
open IReadV13 IHaveV13
open ITrade (at_new)
open Bals (T3 el3 val sumI)
open BMem Bks BHelp BMemV13
open IBalsFit (one_more all_one)
open IRead (enters beq_of FirstAt iContainsF)
open Lots (Says says_of NoOk)
theorem ixB{a:Option Addr}{g n k:Nat}(c:Nat)(e:a=some ⟨g,0,none⟩)(h:k<n)(w:World):(Instr.indexAt 41 (.slice a n c) (.int .i64 k)).run Tryz.prog w= .ok (.pointer (some ⟨g,k*3,none⟩)) w:=by
 subst e
 have:(k:Int)<n:=by omega
 simp[go_sem,this]
theorem ixI{a:Option Addr}{g n k:Nat}(c:Nat)(e:a=some ⟨g,0,none⟩)(h:k<n)(w:World):(Instr.indexAt 40 (.slice a n c) (.int .i64 k)).run Tryz.prog w= .ok (.pointer (some ⟨g,k*2,none⟩)) w:=by
 subst e
 have:(k:Int)<n:=by omega
 simp[go_sem,this]
theorem iBalsFit(w:World)(x:Ix)(b:Bool)(h:RdV w x)(hl:Lists x.b)(hb:Says b (BalsFit x.b)):
  Calls Tryz.prog 93 #[.agg #[.slice x.aa x.b.ac.length x.ca,.slice x.ai x.b.ic.length x.ci,.slice x.ab x.b.bs.length x.cb,.slice x.al x.b.ls.length x.cl,.slice x.ats x.b.ts.length x.ct,.int .i64 x.b.lot]] w fun e w'=>e= .returned (.bool b)∧Below w.heap.size w w':=by
 have T:=zh hb
 have L:=zh hl
 have S0:=zh (StV.start h 45)
 have nb:=h.nb
 have ni:=h.ni
 clear hb hl h
 go_enter Tryz.func93,Tryz.ntmps93
 go_wp2
 go_loopw [12] (fun i wr=>∃(k:Nat),k≤x.b.bs.length∧i= .int .i64 k∧StV w wr x∧Hid (∀j,j<k→BalFit x.b (el3 x.b.bs j))) (fun i _=>x.b.bs.length-(intOf i).toNat)
 case atStart=>exact⟨0,by omega,rfl,zu S0,zh (fun i hi=>absurd hi (by omega))⟩
 case round=>
  obtain⟨k,hk,rfl,hS,HG⟩:=hrel
  clear S0
  by_cases t:k<x.b.bs.length
  ·obtain⟨gb,eb⟩:=hS.r.eb (by omega)
   obtain⟨d0,d1,d2⟩:=(hS.r.rb gb eb).2 k t
   have ix:=ixB x.cb eb t
   clear eb
   obtain⟨c0,c1,c2,c3,c4,c5⟩:=hS.c
   have BAD:=zh (show ¬BalFit x.b (el3 x.b.bs k)→b=false from fun hr=>(zu T).not (fun r=>hr (r.1 k t)))
   have GOOD:=zh (show BalFit x.b (el3 x.b.bs k)→∀i,i<k+1→BalFit x.b (el3 x.b.bs i) from fun hr i hi=>by
    by_cases e:i=k
    ·subst e;exact hr
    ·exact(zu HG) i (by omega))
   have FIT:=zh (show BalFit x.b (el3 x.b.bs k)↔kindOf x.b.ac (el3 x.b.bs k).1≠0∧kindOf x.b.ic (el3 x.b.bs k).2.1≠0∧¬(kindOf x.b.ac (el3 x.b.bs k).1=1∧(el3 x.b.bs k).2.2<0) from Iff.rfl)
   have wz:=hS.s
   have S1:=zh (hS.step (one_more wr (.cells #[.int .i64 (el3 x.b.bs k).1,.int .i64 (el3 x.b.bs k).2.1,.int .i64 (el3 x.b.bs k).2.2] 111)))
   clear hS
   generalize (el3 x.b.bs k).1=y0 at *
   generalize (el3 x.b.bs k).2.1=y1 at *
   generalize (el3 x.b.bs k).2.2=y2 at *
   obtain⟨b0,h0⟩:=says_of (kindOf x.b.ac y0≠0)
   obtain⟨b1,h1⟩:=says_of (kindOf x.b.ic y1≠0)
   obtain⟨b2,h2⟩:=says_of (kindOf x.b.ac y0=1)
   have H0:=zh h0
   have H1:=zh h1
   have H2:=zh h2
   clear h0 h1 h2
   go_wp2_with fail
   have S2:=zh ((zu S1).step (one_more _ (.cells #[.int .i64 y0] 3)))
   refine(iHaveAccounts _ x (wr.heap.size+1) 1 1 [y0] b0 (zu S2).r (zu L).1 rfl (by omega) (by simp) (at_new _ [y0] _ (by simp) rfl) (all_one (zu H0))).mono ?_
   rintro e w1 ⟨rfl,bb⟩
   have S3:=zh ((zu S2).step bb)
   have f0:w1.cell? ⟨wr.heap.size,0,none⟩=some (.int .i64 y0):=(bb.cell (p:=⟨wr.heap.size,0,none⟩) (by simp;omega)).trans (by simp)
   have f1:w1.cell? ⟨wr.heap.size,1,none⟩=some (.int .i64 y1):=(bb.cell (p:=⟨wr.heap.size,1,none⟩) (by simp;omega)).trans (by simp)
   have f2:w1.cell? ⟨wr.heap.size,2,none⟩=some (.int .i64 y2):=(bb.cell (p:=⟨wr.heap.size,2,none⟩) (by simp;omega)).trans (by simp)
   have z1:wr.heap.size<w1.heap.size:=by have:=bb.size;simp at this;omega
   clear bb c0 c1 c2 c3 c4 c5 d0 d1 d2
   obtain⟨c0,c1,c2,c3,c4,c5⟩:=(zu S3).c
   cases b0
   ·have F:=zh ((zu BAD) (fun hh=>(zu H0).no ((zu FIT).1 hh).1))
    clear BAD GOOD FIT T
    go_wp2
    go_ret
    exact⟨by rw[zu F];rfl,(zu S3).b⟩
   go_wp2_with fail
   have S4:=zh ((zu S3).step (one_more _ (.cells #[.int .i64 y1] 3)))
   refine(iHaveInstrs _ x w1.heap.size 1 1 [y1] b1 (zu S4).r (zu L).2.1 rfl (by omega) (by simp) (at_new _ [y1] _ rfl rfl) (all_one (zu H1))).mono ?_
   rintro e w2 ⟨rfl,bb⟩
   have S5:=zh ((zu S4).step bb)
   have g0:w2.cell? ⟨wr.heap.size,0,none⟩=some (.int .i64 y0):=(bb.cell (p:=⟨wr.heap.size,0,none⟩) (by simp;omega)).trans ((World.cell?_alloc_past _ _ _ z1).trans f0)
   have g2:w2.cell? ⟨wr.heap.size,2,none⟩=some (.int .i64 y2):=(bb.cell (p:=⟨wr.heap.size,2,none⟩) (by simp;omega)).trans ((World.cell?_alloc_past _ _ _ z1).trans f2)
   clear bb c0 c1 c2 c3 c4 c5 f0 f1 f2
   obtain⟨c0,c1,c2,c3,c4,c5⟩:=(zu S5).c
   cases b1
   ·have F:=zh ((zu BAD) (fun hh=>(zu H1).no ((zu FIT).1 hh).2.1))
    clear BAD GOOD FIT T
    go_wp2
    go_ret
    exact⟨by rw[zu F];rfl,(zu S5).b⟩
   by_cases q:y2<0
   ·go_wp2_with fail
    refine(iHolder _ x y0 b2 (zu S5).r (zu L).1 (zu H2)).mono ?_
    rintro e w3 ⟨rfl,bb⟩
    have S6:=zh ((zu S5).step bb)
    clear bb c0 c1 c2 c3 c4 c5
    cases b2
    ·have G:=zh ((zu GOOD) ((zu FIT).2 ⟨(zu H0).yes,(zu H1).yes,fun r=>(zu H2).no r.1⟩))
     clear BAD GOOD FIT
     go_wp2
     go_roundw
     case rel=>exact⟨k+1,by omega,by go_num,zu S6,G⟩
     case measure=>simp[intOf];omega
    ·have F:=zh ((zu BAD) (fun hh=>((zu FIT).1 hh).2.2 ⟨(zu H2).yes,q⟩))
     clear BAD GOOD FIT T
     go_wp2
     go_ret
     exact⟨by rw[zu F];rfl,(zu S6).b⟩
   ·have G:=zh ((zu GOOD) ((zu FIT).2 ⟨(zu H0).yes,(zu H1).yes,fun r=>q r.2⟩))
    have hq:decide (y2<0)=false:=decide_eq_false q
    clear BAD GOOD FIT q
    go_wp2
    go_roundw
    case rel=>exact⟨k+1,by omega,by go_num,zu S5,G⟩
    case measure=>simp[intOf];omega
  ·have ALL:=zh (show ∀k,k<x.b.bs.length→BalFit x.b (el3 x.b.bs k) from fun j hj=>(zu HG) j (by omega))
   obtain⟨c0,c1,c2,c3,c4,c5⟩:=hS.c
   have S1:=zh hS
   clear hS HG
   go_wp2
   go_loopw [43] (fun i wr=>∃(k:Nat),k≤x.b.ic.length∧i= .int .i64 k∧StV w wr x∧Hid (∀j,j<k→sumI x.b.bs (Chart.el x.b.ic j).1=0)) (fun i _=>x.b.ic.length-(intOf i).toNat)
   case atStart=>exact⟨0,by omega,rfl,zu S1,zh (fun i hi=>absurd hi (by omega))⟩
   case round=>
    clear c0 c1 c2 c3 c4 c5 S1 hk t
    obtain⟨k,hk,rfl,hS,HG⟩:=hrel
    by_cases t:k<x.b.ic.length
    ·obtain⟨gi,ei⟩:=hS.r.ei (by omega)
     obtain⟨d0,d1⟩:=(hS.r.ri gi ei).2 k t
     have ix:=ixI x.ci ei t
     clear ei
     have c2:=hS.c.c2
     have S1:=zh (hS.step (one_more _ (.cells #[.int .i64 (Chart.el x.b.ic k).1,.int .i64 (Chart.el x.b.ic k).2] 109)))
     have wz:=hS.s
     clear hS
     have BAD:=zh (show sumI x.b.bs (Chart.el x.b.ic k).1≠0→b=false from fun hr=>(zu T).not (fun r=>hr (r.2 _)))
     have GOOD:=zh (show sumI x.b.bs (Chart.el x.b.ic k).1=0→∀i,i<k+1→sumI x.b.bs (Chart.el x.b.ic i).1=0 from fun hr i hi=>by
      by_cases e:i=k
      ·subst e;exact hr
      ·exact(zu HG) i (by omega))
     generalize (Chart.el x.b.ic k).1=y0 at *
     generalize (Chart.el x.b.ic k).2=y1 at *
     obtain⟨r,c,hs⟩:=Look.sum_is x.b.bs y0
     have Z:=zh (sum_zero (zu L).2.2.1 hs)
     have HS:=zh hs
     clear hs
     go_wp2_with fail
     refine(iSumV _ x y0 r c (zu S1).r (zu HS)).mono ?_
     rintro e w1 ⟨rfl,bb⟩
     have S2:=zh ((zu S1).step bb)
     clear bb c2 d0 d1
     cases c
     ·have F:=zh ((zu BAD) (fun e=>by have:=(zu Z).2 e;cases this.1))
      clear BAD GOOD T
      go_wp2
      go_ret
      exact⟨by rw[zu F];rfl,(zu S2).b⟩
     by_cases q:r=0
     ·have G:=zh ((zu GOOD) ((zu Z).1 ⟨rfl,q⟩))
      have hq:(r !=0)=false:=by simp[q]
      clear BAD GOOD q
      go_wp2
      go_roundw
      case rel=>exact⟨k+1,by omega,by go_num,zu S2,G⟩
      case measure=>simp[intOf];omega
     ·have F:=zh ((zu BAD) (fun e=>q ((zu Z).2 e).2))
      have hq:(r !=0)=true:=by simp[q]
      clear BAD GOOD T q
      go_wp2
      go_ret
      exact⟨by rw[zu F];rfl,(zu S2).b⟩
    ·have F:=zh ((zu T).of (bals_impl (zu ALL) (fun j hj=>(zu HG) j (by omega))))
     have S1:=zh hS
     clear hS
     go_wp2
     go_ret
     exact⟨by rw[zu F];rfl,(zu S1).b⟩
end IBalsFitV13
namespace ILotsFitV13
open IReadV13 IHaveV13 IBalsFitV13
open ILotsFit (leftB leftL leftB_zero leftB_yes leftB_no leftL_zero leftL_next leftL_all leftL_bd list_none below_of_drew)
open Lots (qtyOf)
open Bals (T3 el3 val sumI upd ListOf)
open Tup5 (T5 el5)
open Tab (Tab Wf wf_no wf_amt)
open BMem Bks BHelp BMemV13
open IBalsFit (one_more all_one)
open IRead (enters beq_of FirstAt iContainsF)
open Lots (Says says_of NoOk)
theorem ixL{a:Option Addr}{g n k:Nat}(c:Nat)(e:a=some ⟨g,0,none⟩)(h:k<n)(w:World):(Instr.indexAt 42 (.slice a n c) (.int .i64 k)).run Tryz.prog w= .ok (.pointer (some ⟨g,k*5,none⟩)) w:=by
 subst e
 have:(k:Int)<n:=by omega
 simp[go_sem,this]
theorem StV.grown{w W W':World}{x:Ix}{M:Nat}(H:RdV w x)(h:StV w W x)(k:W.grownBy W' (some M))(hM:w.heap.size<M):StV w W' x:=by
 have b:Below w.heap.size w W':=h.b.grown k (Nat.le_of_lt h.s) (fun j e=>by cases e;omega)
 have ne:some w.heap.size≠some M:=fun e=>by cases e;omega
 exact⟨H.below b,⟨k.cell h.c.c0 ne,k.cell h.c.c1 ne,k.cell h.c.c2 ne,k.cell h.c.c3 ne,k.cell h.c.c4 ne,k.cell h.c.c5 ne⟩,b,Nat.lt_of_lt_of_le h.s k.size⟩
theorem iLotsFit(w:World)(x:Ix)(b:Bool)(h:RdV w x)(hl:Lists x.b)(hb:Says b (LotsFit x.b)):
  Calls Tryz.prog 94 #[.agg #[.slice x.aa x.b.ac.length x.ca,.slice x.ai x.b.ic.length x.ci,.slice x.ab x.b.bs.length x.cb,.slice x.al x.b.ls.length x.cl,.slice x.ats x.b.ts.length x.ct,.int .i64 x.b.lot]] w fun e w'=>e= .returned (.bool b)∧Below w.heap.size w w':=by
 have T:=zh hb
 have L:=zh hl
 have H:=zh h
 have S0:=zh ((StV.start h 45).step (one_more _ (.map #[] 0)))
 have nb:=h.nb
 have nl:=h.nl
 have n160:x.b.bs.length≤160:=hl.2.2.1.1
 have n120:x.b.ls.length≤120:=hl.2.2.2.1.1
 have TM:=zh (Tab.tab_made (w.alloc (.cells #[.slice x.aa x.b.ac.length x.ca,.slice x.ai x.b.ic.length x.ci,.slice x.ab x.b.bs.length x.cb,.slice x.al x.b.ls.length x.cl,.slice x.ats x.b.ts.length x.ct,.int .i64 x.b.lot] 45)))
 have hmm:= @run_makeMap Tryz.prog
 clear hb hl h
 go_enter Tryz.func94,Tryz.ntmps94
 go_wp2
 go_loopw [12] (fun i wr=>∃(k:Nat),k≤x.b.bs.length∧i= .int .i64 k∧StV w wr x∧Hid (Tab wr (w.heap.size+1) k (leftB x.b k))) (fun i _=>x.b.bs.length-(intOf i).toNat)
 case atStart=>exact⟨0,by omega,rfl,zu S0,zh ((by simpa using zu TM:Tab _ (w.heap.size+1) 0 (fun _ _=>0)).congr (fun a i=>(leftB_zero _ a i).symm))⟩
 case round=>
  obtain⟨k,hk,rfl,hS,HT⟩:=hrel
  clear S0 TM
  by_cases t:k<x.b.bs.length
  ·obtain⟨gb,eb⟩:=hS.r.eb (by omega)
   obtain⟨d0,d1,d2⟩:=(hS.r.rb gb eb).2 k t
   have ix:=ixB x.cb eb t
   clear eb
   obtain⟨c0,c1,c2,c3,c4,c5⟩:=hS.c
   obtain⟨r1,r2,r3,r4,_⟩:=(zu L).2.2.1.2 k t
   have WF:=zh (wf_no r1 r2)
   have WA:=wf_amt r3
   have YES:=zh (fun hh=>leftB_yes (zu L).2.2.1 t hh)
   have NO:=zh (fun hh=>leftB_no (zu L).2.2.1 t hh)
   have wz:=hS.s
   have S1:=zh (hS.step (one_more wr (.cells #[.int .i64 (el3 x.b.bs k).1,.int .i64 (el3 x.b.bs k).2.1,.int .i64 (el3 x.b.bs k).2.2] 111)))
   have T1:=zh ((zu HT).below (one_more wr (.cells #[.int .i64 (el3 x.b.bs k).1,.int .i64 (el3 x.b.bs k).2.1,.int .i64 (el3 x.b.bs k).2.2] 111)))
   clear hS HT r1 r2 r3 r4
   generalize (el3 x.b.bs k).1=y0 at *
   generalize (el3 x.b.bs k).2.1=y1 at *
   generalize (el3 x.b.bs k).2.2=y2 at *
   obtain⟨b0,h0⟩:=says_of (kindOf x.b.ac y0=1)
   obtain⟨b1,h1⟩:=says_of (kindOf x.b.ic y1=2)
   have H0:=zh h0
   have H1:=zh h1
   clear h0 h1
   go_wp2_with fail
   refine(iHolder _ x y0 b0 (zu S1).r (zu L).1 (zu H0)).mono ?_
   rintro e w1 ⟨rfl,bb⟩
   have S2:=zh ((zu S1).step bb)
   have T2:=zh ((zu T1).below bb)
   have f0:w1.cell? ⟨wr.heap.size,0,none⟩=some (.int .i64 y0):=(bb.cell (p:=⟨wr.heap.size,0,none⟩) (by simp)).trans (by simp)
   have f1:w1.cell? ⟨wr.heap.size,1,none⟩=some (.int .i64 y1):=(bb.cell (p:=⟨wr.heap.size,1,none⟩) (by simp)).trans (by simp)
   have f2:w1.cell? ⟨wr.heap.size,2,none⟩=some (.int .i64 y2):=(bb.cell (p:=⟨wr.heap.size,2,none⟩) (by simp)).trans (by simp)
   have z1:wr.heap.size<w1.heap.size:=by have:=bb.size;simp at this;omega
   clear bb c0 c1 c2 c3 c4 c5 d0 d1 d2 S1 T1
   obtain⟨c0,c1,c2,c3,c4,c5⟩:=(zu S2).c
   cases b0
   ·have E:=zh ((zu NO) (fun hh=>(zu H0).no hh.1))
    clear YES NO
    go_wp2
    go_roundw
    case rel=>
     refine⟨k+1,by omega,by go_num,zu S2,zh ?_⟩
     obtain⟨D,o1,o2⟩:=(zu T2).congr (fun a i=>((zu E) a i).symm)
     exact⟨D,o1.mono (by omega),o2⟩
    case measure=>simp[intOf];omega
   go_wp2_with fail
   refine(iPaper _ x y1 b1 (zu S2).r (zu L).2.1 (zu H1)).mono ?_
   rintro e w2 ⟨rfl,bb⟩
   have S3:=zh ((zu S2).step bb)
   have T3:=zh ((zu T2).below bb)
   replace f0:w2.cell? ⟨wr.heap.size,0,none⟩=some (.int .i64 y0):=(bb.cell (p:=⟨wr.heap.size,0,none⟩) z1).trans f0
   replace f1:w2.cell? ⟨wr.heap.size,1,none⟩=some (.int .i64 y1):=(bb.cell (p:=⟨wr.heap.size,1,none⟩) z1).trans f1
   replace f2:w2.cell? ⟨wr.heap.size,2,none⟩=some (.int .i64 y2):=(bb.cell (p:=⟨wr.heap.size,2,none⟩) z1).trans f2
   clear bb c0 c1 c2 c3 c4 c5 S2 T2
   cases b1
   ·have E:=zh ((zu NO) (fun hh=>(zu H1).no hh.2))
    clear YES NO
    go_wp2
    go_roundw
    case rel=>
     refine⟨k+1,by omega,by go_num,zu S3,zh ?_⟩
     obtain⟨D,o1,o2⟩:=(zu T3).congr (fun a i=>((zu E) a i).symm)
     exact⟨D,o1.mono (by omega),o2⟩
    case measure=>simp[intOf];omega
   have E:=zh ((zu YES) ⟨(zu H0).yes,(zu H1).yes⟩)
   clear YES NO
   go_wp2_with (first|(at_mapUpdate;refine Tab.wp_put _ rfl _ _ _ 178 rfl Tryz.underlying178 (w.heap.size+1) k _ rfl (zu T3) (by omega) y0 y1 y2 rfl rfl (zu WF) WA ?_;intro w3 t3 g3)|go_in)
   go_roundw
   case rel=>exact⟨k+1,by omega,by go_num,StV.grown (zu H) (zu S3) g3 (by omega),zh (t3.congr (fun a i=>((zu E) a i).symm))⟩
   case measure=>simp[intOf];omega
  ·obtain rfl:k=x.b.bs.length:=by omega
   obtain⟨c0,c1,c2,c3,c4,c5⟩:=hS.c
   have S1:=zh hS
   have T1:=zh ((zu HT).congr (fun a i=>(leftL_zero x.b a i).symm))
   clear hS HT
   go_wp2
   go_loopw [38] (fun i wr=>∃(k:Nat),k≤x.b.ls.length∧i= .int .i64 k∧StV w wr x∧Hid (Tab wr (w.heap.size+1) (x.b.bs.length+k) (leftL x.b k))∧Hid (∀j,j<k→LotFit x.b (el5 x.b.ls j))) (fun i _=>x.b.ls.length-(intOf i).toNat)
   case atStart=>exact⟨0,by omega,rfl,zu S1,T1,zh (fun i hi=>absurd hi (by omega))⟩
   case round=>
    clear c0 c1 c2 c3 c4 c5 S1 T1 hk t
    obtain⟨k,hk,rfl,hS,HT,HG⟩:=hrel
    by_cases t:k<x.b.ls.length
    ·obtain⟨gl,el⟩:=hS.r.el (by omega)
     obtain⟨d0,d1,d2,d3,d4⟩:=(hS.r.rl gl el).2 k t
     have ix:=ixL x.cl el t
     clear el
     obtain⟨c0,c1,c2,c3,c4,c5⟩:=hS.c
     have BAD:=zh (show ¬LotFit x.b (el5 x.b.ls k)→b=false from fun hr=>(zu T).not (fun r=>hr (r.1 k t)))
     have GOOD:=zh (show LotFit x.b (el5 x.b.ls k)→∀i,i<k+1→LotFit x.b (el5 x.b.ls i) from fun hr i hi=>by
      by_cases e:i=k
      ·subst e;exact hr
      ·exact(zu HG) i (by omega))
     have FIT:=zh (show LotFit x.b (el5 x.b.ls k)↔kindOf x.b.ac (el5 x.b.ls k).1=1∧kindOf x.b.ic (el5 x.b.ls k).2.1=2∧(el5 x.b.ls k).2.2.1≤x.b.lot from Iff.rfl)
     have NX:=zh (leftL_next t)
     obtain⟨r1,r2,_,r4,_⟩:=((zu L).2.2.2.1.2.1 k t).1
     have WF:=zh (wf_no r1 r2)
     have BD:=leftL_bd (zu L) k (el5 x.b.ls k).1 (el5 x.b.ls k).2.1
     have wz:=hS.s
     have mz:=(zu HT).lt
     have S1:=zh (hS.step (one_more wr (.cells #[.int .i64 (el5 x.b.ls k).1,.int .i64 (el5 x.b.ls k).2.1,.int .i64 (el5 x.b.ls k).2.2.1,.int .i64 (el5 x.b.ls k).2.2.2.1,.int .i64 (el5 x.b.ls k).2.2.2.2] 113)))
     have T1:=zh ((zu HT).below (one_more wr (.cells #[.int .i64 (el5 x.b.ls k).1,.int .i64 (el5 x.b.ls k).2.1,.int .i64 (el5 x.b.ls k).2.2.1,.int .i64 (el5 x.b.ls k).2.2.2.1,.int .i64 (el5 x.b.ls k).2.2.2.2] 113)))
     clear hS HT r1 r2
     generalize (el5 x.b.ls k).1=y0 at *
     generalize (el5 x.b.ls k).2.1=y1 at *
     generalize (el5 x.b.ls k).2.2.1=y2 at *
     generalize (el5 x.b.ls k).2.2.2.1=y3 at *
     generalize (el5 x.b.ls k).2.2.2.2=y4 at *
     obtain⟨b0,h0⟩:=says_of (kindOf x.b.ac y0=1)
     obtain⟨b1,h1⟩:=says_of (kindOf x.b.ic y1=2)
     have H0:=zh h0
     have H1:=zh h1
     clear h0 h1
     go_wp2_with fail
     refine(iHolder _ x y0 b0 (zu S1).r (zu L).1 (zu H0)).mono ?_
     rintro e w1 ⟨rfl,bb⟩
     have S2:=zh ((zu S1).step bb)
     have T2:=zh ((zu T1).below bb)
     have f0:w1.cell? ⟨wr.heap.size,0,none⟩=some (.int .i64 y0):=(bb.cell (p:=⟨wr.heap.size,0,none⟩) (by simp)).trans (by simp)
     have f1:w1.cell? ⟨wr.heap.size,1,none⟩=some (.int .i64 y1):=(bb.cell (p:=⟨wr.heap.size,1,none⟩) (by simp)).trans (by simp)
     have f2:w1.cell? ⟨wr.heap.size,2,none⟩=some (.int .i64 y2):=(bb.cell (p:=⟨wr.heap.size,2,none⟩) (by simp)).trans (by simp)
     have f3:w1.cell? ⟨wr.heap.size,3,none⟩=some (.int .i64 y3):=(bb.cell (p:=⟨wr.heap.size,3,none⟩) (by simp)).trans (by simp)
     have f4:w1.cell? ⟨wr.heap.size,4,none⟩=some (.int .i64 y4):=(bb.cell (p:=⟨wr.heap.size,4,none⟩) (by simp)).trans (by simp)
     have z1:wr.heap.size<w1.heap.size:=by have:=bb.size;simp at this;omega
     clear bb c0 c1 c2 c3 c4 c5 d0 d1 d2 d3 d4 S1 T1
     obtain⟨c0,c1,c2,c3,c4,c5⟩:=(zu S2).c
     cases b0
     ·have F:=zh ((zu BAD) (fun hh=>(zu H0).no ((zu FIT).1 hh).1))
      clear BAD GOOD FIT T
      go_wp2
      go_ret
      exact⟨by rw[zu F];rfl,(zu S2).b⟩
     go_wp2_with fail
     refine(iPaper _ x y1 b1 (zu S2).r (zu L).2.1 (zu H1)).mono ?_
     rintro e w2 ⟨rfl,bb⟩
     have S3:=zh ((zu S2).step bb)
     have T3:=zh ((zu T2).below bb)
     replace f0:w2.cell? ⟨wr.heap.size,0,none⟩=some (.int .i64 y0):=(bb.cell (p:=⟨wr.heap.size,0,none⟩) z1).trans f0
     replace f1:w2.cell? ⟨wr.heap.size,1,none⟩=some (.int .i64 y1):=(bb.cell (p:=⟨wr.heap.size,1,none⟩) z1).trans f1
     replace f2:w2.cell? ⟨wr.heap.size,2,none⟩=some (.int .i64 y2):=(bb.cell (p:=⟨wr.heap.size,2,none⟩) z1).trans f2
     replace f3:w2.cell? ⟨wr.heap.size,3,none⟩=some (.int .i64 y3):=(bb.cell (p:=⟨wr.heap.size,3,none⟩) z1).trans f3
     replace f4:w2.cell? ⟨wr.heap.size,4,none⟩=some (.int .i64 y4):=(bb.cell (p:=⟨wr.heap.size,4,none⟩) z1).trans f4
     have z2:wr.heap.size<w2.heap.size:=Nat.lt_of_lt_of_le z1 bb.size
     clear bb c0 c1 c2 c3 c4 c5 S2 T2
     have c5:=(zu S3).c.c5
     cases b1
     ·have F:=zh ((zu BAD) (fun hh=>(zu H1).no ((zu FIT).1 hh).2.1))
      clear BAD GOOD FIT T
      go_wp2
      go_ret
      exact⟨by rw[zu F];rfl,(zu S3).b⟩
     by_cases q:y2>x.b.lot
     ·have F:=zh ((zu BAD) (fun hh=>by have:=((zu FIT).1 hh).2.2;omega))
      clear BAD GOOD FIT T
      go_wp2
      go_ret
      exact⟨by rw[zu F];rfl,(zu S3).b⟩
     have G:=zh ((zu GOOD) ((zu FIT).2 ⟨(zu H0).yes,(zu H1).yes,by omega⟩))
     have hq:decide (y2>x.b.lot)=false:=decide_eq_false q
     clear BAD GOOD FIT q
     go_wp2_with fail
     clear c5
     generalize hfv:leftL x.b k y0 y1=fv at *
     have FV:=zh hfv
     have wrap1:IntKind.i64.wrap (fv-y3)=fv-y3:=by rw[IntKind.wrap_i64];omega
     have WV:(Lit.int .i64 (fv-y3)).wf=true:=WalkArith.wf_i64 (by omega)
     clear hfv
     have M1:=zh (fun(W:World) (bW:Below w2.heap.size w2 W)=>Entry.entry_run ((zu T3).below bW) (by omega) (zu WF))
     go_region_held3 (fun w'=>w'.cell? ⟨wr.heap.size,0,none⟩=some (.int .i64 y0)∧w'.cell? ⟨wr.heap.size,1,none⟩=some (.int .i64 y1)∧w'.cell? ⟨wr.heap.size,2,none⟩=some (.int .i64 y2)∧w'.cell? ⟨wr.heap.size,3,none⟩=some (.int .i64 y3)∧w'.cell? ⟨wr.heap.size,4,none⟩=some (.int .i64 y4)) (go_keep)
      (first|(go_at_call 157;refine(CmpL.keyL y0 y1 y2 y3 y4 w2.drew).mono ?_;rintro e w3 ⟨rfl,bb⟩;have bW:Below w2.heap.size w2 w3:=below_of_drew bb;have t3:=(zu T3).below bW;have l3:=Post.look_run t3 (zu WF);rw[zu FV] at l3;obtain⟨v0,st,w4,E4,t4,g4,ST⟩:=(zu M1) w3 bW;have l4:=Post.look_run t4 (zu WF);rw[zu FV] at l4;obtain⟨w5,E5,t5,g5⟩:=ST (fv-y3) WV;replace E5:(Instr.entryStore 178 (.map (some (w.heap.size+1))) (.int .i64 (st:Int)) (.int .i64 (fv-y3))).run Tryz.prog w4= .ok () w5:=E5;have ne:some wr.heap.size≠some (w.heap.size+1):=(fun e=>by injection e;omega);have p0:w3.cell? ⟨wr.heap.size,0,none⟩=some (.int .i64 y0):=(bW.cell (p:=⟨wr.heap.size,0,none⟩) z2).trans f0;have q0:=g4.cell p0 ne;have o0:=g5.cell p0 ne;have p1:w3.cell? ⟨wr.heap.size,1,none⟩=some (.int .i64 y1):=(bW.cell (p:=⟨wr.heap.size,1,none⟩) z2).trans f1;have q1:=g4.cell p1 ne;have o1:=g5.cell p1 ne;have p2:w3.cell? ⟨wr.heap.size,2,none⟩=some (.int .i64 y2):=(bW.cell (p:=⟨wr.heap.size,2,none⟩) z2).trans f2;have q2:=g4.cell p2 ne;have o2:=g5.cell p2 ne;have p3:w3.cell? ⟨wr.heap.size,3,none⟩=some (.int .i64 y3):=(bW.cell (p:=⟨wr.heap.size,3,none⟩) z2).trans f3;have q3:=g4.cell p3 ne;have o3:=g5.cell p3 ne;have p4:w3.cell? ⟨wr.heap.size,4,none⟩=some (.int .i64 y4):=(bW.cell (p:=⟨wr.heap.size,4,none⟩) z2).trans f4;have q4:=g4.cell p4 ne;have o4:=g5.cell p4 ne;clear bb ST))
     all_goals
      have S4:=zh (StV.grown (zu H) ((zu S3).step bW) g5 (by omega))
      have T5:=zh (t5.congr (fun a i=>(by rw[zu NX]:leftL x.b (k+1) a i=upd (leftL x.b k) y0 y1 (fv-y3) a i).symm))
      clear t3 l3 E4 t4 g4 l4 t5 g5 E5 p0 p1 p2 p3 p4 q0 q1 q2 q3 q4 o0 o1 o2 o3 o4 f0 f1 f2 f3 f4 S3 T3 M1 bW NX
      go_wp2
      go_roundw
      case rel=>exact⟨k+1,by omega,by go_num,zu S4,T5,G⟩
      case measure=>simp[intOf];omega
    ·obtain rfl:k=x.b.ls.length:=by omega
     have ALL:=zh (show ∀j,j<x.b.ls.length→LotFit x.b (el5 x.b.ls j) from zu HG)
     have S1:=zh hS
     have T1:=zh ((zu HT).congr (fun a i=>leftL_all x.b a i))
     clear hS HT HG
     go_wp2_with fail
     refine(Out.iBals _ (w.heap.size+1) _ _ (by omega) (zu T1)).mono ?_
     rintro e w1 ⟨qs,g,c,hq,hn,rfl,ho,bb⟩
     have B1:=zh ((zu S1).b.trans (bb.mono (Nat.le_of_lt (zu S1).s)))
     have hd:((qs.length:Int)==0)=b:=by
      have hz:=(list_none hq).trans (lots_impl (zu ALL))
      by_cases z:qs.length=0
      ·rw[(zu T).of (hz.1 z),z];rfl
      ·rw[(zu T).not (fun r=>z (hz.2 r))]
       simp only[beq_eq_false_iff_ne]
       omega
     clear bb ho hq hn
     go_wp2
     go_ret
     exact⟨rfl,zu B1⟩
end ILotsFitV13
namespace IBooksOkV13
open IReadV13 IHaveV13 IBalsFitV13 ILotsFitV13 IIndex8
open ITradesFit (unfitB unfit_says)
open Tup8 (T8 el8 At8 Holds8)
open BMem Bks BHelp BMemV13
open IBalsFit (one_more all_one)
open IRead (enters beq_of FirstAt iContainsF)
open Lots (Says says_of NoOk)
theorem containsV(w:World)(x:Ix)(K:Nat)(caps:Array Value)(p:T8→Bool)(b:Bool)(h:RdV w x)
  (hK:∀(args:Array Value) (u:World),(callFunc K args).run Tryz.prog u= .ok (.enter K args) u)(hf:∀(u:World) (y:T8),Below w.heap.size w u→Calls Tryz.prog K (#[.agg #[.int .i64 y.1,.int .i64 y.2.1,.int .i64 y.2.2.1,.int .i64 y.2.2.2.1,.int .i64 y.2.2.2.2.1,.int .i64 y.2.2.2.2.2.1,.int .i64 y.2.2.2.2.2.2.1,.int .i64 y.2.2.2.2.2.2.2]]++caps) u fun e u'=>e= .returned (.bool (p y))∧Below u.heap.size u u')(hb:Says b (∃t∈x.b.ts,p t=true)):
  Calls Tryz.prog 159 #[.slice x.ats x.b.ts.length x.ct,.func (.func K) #[] caps] w fun e w'=>e= .returned (.bool b)∧Below w.heap.size w w':=by
 by_cases z:x.b.ts.length=0
 ·rw[z]
  have e:b=false:=hb.not (fun⟨t,ht,_⟩=>by rw[List.eq_nil_of_length_eq_zero z] at ht;cases ht)
  exact(contains0 w x.ats x.ct K caps).mono fun e' w' ⟨h1,h2⟩=>⟨by rw[h1,e],by rw[h2];exact Below.refl _ _⟩
 ·obtain⟨g,eg⟩:=h.et z
  rw[eg]
  exact iContainsF8 w g _ x.ct K caps x.b.ts p b rfl h.nt (h.rt g eg).1 (h.rt g eg).2 hK hf hb
theorem iTradeFits(w:World)(x:Ix)(y0 y1 y2 y3 y4 y5 y6 y7:Int)(b:Bool)(h:RdV w x)(ha:Chart.Right 20 4 x.b.ac)(hi:Chart.Right 8 2 x.b.ic)(hb:Says b (TradeFit x.b (y0,y1,y2,y3,y4,y5,y6,y7))):
  Calls Tryz.prog 161 #[.agg #[.slice x.aa x.b.ac.length x.ca,.slice x.ai x.b.ic.length x.ci,.slice x.ab x.b.bs.length x.cb,.slice x.al x.b.ls.length x.cl,.slice x.ats x.b.ts.length x.ct,.int .i64 x.b.lot],.agg #[.int .i64 y0,.int .i64 y1,.int .i64 y2,.int .i64 y3,.int .i64 y4,.int .i64 y5,.int .i64 y6,.int .i64 y7]] w fun e w'=>e= .returned (.bool b)∧Below w.heap.size w w':=by
 have T:=zh hb
 have LA:=zh ha
 have LI:=zh hi
 have FIT:=zh (show TradeFit x.b (y0,y1,y2,y3,y4,y5,y6,y7)↔kindOf x.b.ac y1=1∧kindOf x.b.ac y2=1∧kindOf x.b.ic y3=2∧kindOf x.b.ic y5=1 from Iff.rfl)
 have S1:=zh ((StV.start h 45).step (one_more (w.alloc (.cells #[.slice x.aa x.b.ac.length x.ca,.slice x.ai x.b.ic.length x.ci,.slice x.ab x.b.bs.length x.cb,.slice x.al x.b.ls.length x.cl,.slice x.ats x.b.ts.length x.ct,.int .i64 x.b.lot] 45)) (.cells #[.int .i64 y0,.int .i64 y1,.int .i64 y2,.int .i64 y3,.int .i64 y4,.int .i64 y5,.int .i64 y6,.int .i64 y7] 115)))
 clear hb ha hi h
 obtain⟨b1,h1⟩:=says_of (kindOf x.b.ac y1=1)
 obtain⟨b2,h2⟩:=says_of (kindOf x.b.ac y2=1)
 obtain⟨b3,h3⟩:=says_of (kindOf x.b.ic y3=2)
 obtain⟨b4,h4⟩:=says_of (kindOf x.b.ic y5=1)
 have H1:=zh h1
 have H2:=zh h2
 have H3:=zh h3
 have H4:=zh h4
 clear h1 h2 h3 h4
 go_enter Tryz.func161,Tryz.ntmps161
 go_wp2_with fail
 refine(iHolder _ x y1 b1 (zu S1).r (zu LA) (zu H1)).mono ?_
 rintro e w1 ⟨rfl,bb⟩
 have S2:=zh ((zu S1).step bb)
 have f2:w1.cell? ⟨w.heap.size+1,2,none⟩=some (.int .i64 y2):=(bb.cell (p:=⟨w.heap.size+1,2,none⟩) (by simp)).trans (by simp)
 have f3:w1.cell? ⟨w.heap.size+1,3,none⟩=some (.int .i64 y3):=(bb.cell (p:=⟨w.heap.size+1,3,none⟩) (by simp)).trans (by simp)
 have f5:w1.cell? ⟨w.heap.size+1,5,none⟩=some (.int .i64 y5):=(bb.cell (p:=⟨w.heap.size+1,5,none⟩) (by simp)).trans (by simp)
 have z1:w.heap.size+1<w1.heap.size:=by have:=bb.size;simp at this;omega
 clear bb
 cases b1
 ·have F:=zh ((zu T).not (fun hh=>(zu H1).no ((zu FIT).1 hh).1))
  clear FIT T
  go_wp2
  go_ret
  exact⟨by rw[zu F];rfl,(zu S2).b⟩
 obtain⟨c0,c1,c2,c3,c4,c5⟩:=(zu S2).c
 go_wp2_with fail
 refine(iHolder _ x y2 b2 (zu S2).r (zu LA) (zu H2)).mono ?_
 rintro e w2 ⟨rfl,bb⟩
 have S3:=zh ((zu S2).step bb)
 replace f2:w2.cell? ⟨w.heap.size+1,2,none⟩=some (.int .i64 y2):=(bb.cell (p:=⟨w.heap.size+1,2,none⟩) z1).trans f2
 replace f3:w2.cell? ⟨w.heap.size+1,3,none⟩=some (.int .i64 y3):=(bb.cell (p:=⟨w.heap.size+1,3,none⟩) z1).trans f3
 replace f5:w2.cell? ⟨w.heap.size+1,5,none⟩=some (.int .i64 y5):=(bb.cell (p:=⟨w.heap.size+1,5,none⟩) z1).trans f5
 have z2:w.heap.size+1<w2.heap.size:=Nat.lt_of_lt_of_le z1 bb.size
 clear bb c0 c1 c2 c3 c4 c5
 cases b2
 ·have F:=zh ((zu T).not (fun hh=>(zu H2).no ((zu FIT).1 hh).2.1))
  clear FIT T
  go_wp2
  go_ret
  exact⟨by rw[zu F];rfl,(zu S3).b⟩
 obtain⟨c0,c1,c2,c3,c4,c5⟩:=(zu S3).c
 go_wp2_with fail
 refine(iPaper _ x y3 b3 (zu S3).r (zu LI) (zu H3)).mono ?_
 rintro e w3 ⟨rfl,bb⟩
 have S4:=zh ((zu S3).step bb)
 replace f5:w3.cell? ⟨w.heap.size+1,5,none⟩=some (.int .i64 y5):=(bb.cell (p:=⟨w.heap.size+1,5,none⟩) z2).trans f5
 clear bb c0 c1 c2 c3 c4 c5 f2 f3
 cases b3
 ·have F:=zh ((zu T).not (fun hh=>(zu H3).no ((zu FIT).1 hh).2.2.1))
  clear FIT T
  go_wp2
  go_ret
  exact⟨by rw[zu F];rfl,(zu S4).b⟩
 obtain⟨c0,c1,c2,c3,c4,c5⟩:=(zu S4).c
 go_wp2_with fail
 refine(iCash _ x y5 b4 (zu S4).r (zu LI) (zu H4)).mono ?_
 rintro e w4 ⟨rfl,bb⟩
 have S5:=zh ((zu S4).step bb)
 clear bb c0 c1 c2 c3 c4 c5
 have G:=zh (show b=b4 from by
  cases b4
  ·exact(zu T).not (fun hh=>(zu H4).no ((zu FIT).1 hh).2.2.2)
  ·exact(zu T).of ((zu FIT).2 ⟨(zu H1).yes,(zu H2).yes,(zu H3).yes,(zu H4).yes⟩))
 clear FIT T
 go_wp2
 go_ret
 exact⟨by rw[zu G];rfl,(zu S5).b⟩
theorem iUnfit(w:World)(x:Ix)(g:Nat)(y:T8)(h:RdV w x)(hgs:g<w.heap.size)(hc:ClV w g x)(ha:Chart.Right 20 4 x.b.ac)(hi:Chart.Right 8 2 x.b.ic):
  Calls Tryz.prog 160 (#[.agg #[.int .i64 y.1,.int .i64 y.2.1,.int .i64 y.2.2.1,.int .i64 y.2.2.2.1,.int .i64 y.2.2.2.2.1,.int .i64 y.2.2.2.2.2.1,.int .i64 y.2.2.2.2.2.2.1,.int .i64 y.2.2.2.2.2.2.2]]++ #[.pointer (some ⟨g,0,none⟩)]) w fun e w'=>e= .returned (.bool (unfitB x.b y))∧Below w.heap.size w w':=by
 obtain⟨y0,y1,y2,y3,y4,y5,y6,y7⟩:=y
 show Calls Tryz.prog 160 #[.agg #[.int .i64 y0,.int .i64 y1,.int .i64 y2,.int .i64 y3,.int .i64 y4,.int .i64 y5,.int .i64 y6,.int .i64 y7],.pointer (some ⟨g,0,none⟩)] w _
 have T:=zh (unfit_says x.b (y0,y1,y2,y3,y4,y5,y6,y7))
 generalize unfitB x.b (y0,y1,y2,y3,y4,y5,y6,y7)=b at *
 have B0:=zh (one_more w (.cells #[.int .i64 y0,.int .i64 y1,.int .i64 y2,.int .i64 y3,.int .i64 y4,.int .i64 y5,.int .i64 y6,.int .i64 y7] 115))
 have H:=zh (h.below (zu B0))
 have LA:=zh ha
 have LI:=zh hi
 obtain⟨c0,c1,c2,c3,c4,c5⟩:=hc.below (zu B0) hgs
 clear h ha hi
 go_enter Tryz.func160,Tryz.ntmps160
 go_wp2_with fail
 refine(iTradeFits _ x y0 y1 y2 y3 y4 y5 y6 y7 (!b) (zu H) (zu LA) (zu LI) (zu T)).mono ?_
 rintro e w1 ⟨rfl,b1⟩
 have B1:=zh (next (zu B0) b1)
 clear b1
 go_wp2
 go_ret
 exact⟨by simp,zu B1⟩
theorem iTradesFit(w:World)(x:Ix)(b:Bool)(h:RdV w x)(hl:Lists x.b)(hb:Says b (TradesFit x.b)):
  Calls Tryz.prog 95 #[.agg #[.slice x.aa x.b.ac.length x.ca,.slice x.ai x.b.ic.length x.ci,.slice x.ab x.b.bs.length x.cb,.slice x.al x.b.ls.length x.cl,.slice x.ats x.b.ts.length x.ct,.int .i64 x.b.lot]] w fun e w'=>e= .returned (.bool b)∧Below w.heap.size w w':=by
 have T:=zh (show Says (!b) (∃t∈x.b.ts,unfitB x.b t=true) from by
  cases b
  ·refine⟨fun _=>?_,fun _=>rfl⟩
   have:=hb.no
   refine Classical.byContradiction fun hn=>this fun k hk=>?_
   refine(unfit_says x.b (el8 x.b.ts k)).1 ?_
   cases e:unfitB x.b (el8 x.b.ts k)
   ·rfl
   ·exact absurd ⟨_,Tup8.getD_mem hk,e⟩ hn
  ·refine⟨fun e=>Bool.noConfusion e,fun⟨t,ht,e⟩=>?_⟩
   obtain⟨k,hk,rfl⟩:=Tup8.mem_getD ht
   have:=(unfit_says x.b (el8 x.b.ts k)).2 (hb.yes k hk)
   rw[e] at this
   cases this)
 have LA:=zh hl.1
 have LI:=zh hl.2.1
 have S0:=zh (StV.start h 45)
 have nt:=h.nt
 clear hb hl h
 go_enter Tryz.func95,Tryz.ntmps95
 go_wp2_with fail
 refine(containsV _ x 160 #[.pointer (some ⟨w.heap.size,0,none⟩)] (unfitB x.b) (!b) (zu S0).r (fun _ _=>enters Tryz.func160 (by kernel_rfl) rfl _ _) (fun u y bu=>iUnfit u x w.heap.size y ((zu S0).r.below bu) (Nat.lt_of_lt_of_le (zu S0).s bu.size) ((zu S0).c.below bu (by simp)) (zu LA) (zu LI)) (zu T)).mono ?_
 rintro e w1 ⟨rfl,b1⟩
 have B1:=zh ((zu S0).step b1).b
 clear b1
 go_wp2
 go_ret
 exact⟨by simp,zu B1⟩
theorem iBooksOkV(w:World)(x:Ix)(b:Bool)(h:RdV w x)(hb:Says b (Ok x.b)):
  Calls Tryz.prog 36 #[.agg #[.slice x.aa x.b.ac.length x.ca,.slice x.ai x.b.ic.length x.ci,.slice x.ab x.b.bs.length x.cb,.slice x.al x.b.ls.length x.cl,.slice x.ats x.b.ts.length x.ct,.int .i64 x.b.lot]] w fun e w'=>e= .returned (.bool b)∧Below w.heap.size w w':=by
 have T:=zh hb
 have S0:=zh (StV.start h 45)
 obtain⟨b0,h0⟩:=says_of (Lists x.b)
 obtain⟨b1,h1⟩:=says_of (BalsFit x.b)
 obtain⟨b2,h2⟩:=says_of (LotsFit x.b)
 obtain⟨b3,h3⟩:=says_of (TradesFit x.b)
 have H0:=zh h0
 have H1:=zh h1
 have H2:=zh h2
 have H3:=zh h3
 clear hb h h0 h1 h2 h3
 go_enter Tryz.func36,Tryz.ntmps36
 go_wp2_with fail
 refine(iLists _ x b0 (zu S0).r (zu H0)).mono ?_
 rintro e w1 ⟨rfl,bb⟩
 have S1:=zh ((zu S0).step bb)
 clear bb
 obtain⟨c0,c1,c2,c3,c4,c5⟩:=(zu S1).c
 cases b0
 ·have F:=zh ((zu T).not (fun hh=>(zu H0).no hh.1))
  clear T
  go_wp2
  go_ret
  exact⟨by rw[zu F];rfl,(zu S1).b⟩
 go_wp2_with fail
 refine(iBalsFit _ x b1 (zu S1).r (zu H0).yes (zu H1)).mono ?_
 rintro e w2 ⟨rfl,bb⟩
 have S2:=zh ((zu S1).step bb)
 clear bb
 clear c0 c1 c2 c3 c4 c5
 obtain⟨c0,c1,c2,c3,c4,c5⟩:=(zu S2).c
 cases b1
 ·have F:=zh ((zu T).not (fun hh=>(zu H1).no hh.2.1))
  clear T
  go_wp2
  go_ret
  exact⟨by rw[zu F];rfl,(zu S2).b⟩
 go_wp2_with fail
 refine(iLotsFit _ x b2 (zu S2).r (zu H0).yes (zu H2)).mono ?_
 rintro e w3 ⟨rfl,bb⟩
 have S3:=zh ((zu S2).step bb)
 clear bb
 clear c0 c1 c2 c3 c4 c5
 obtain⟨c0,c1,c2,c3,c4,c5⟩:=(zu S3).c
 cases b2
 ·have F:=zh ((zu T).not (fun hh=>(zu H2).no hh.2.2.1))
  clear T
  go_wp2
  go_ret
  exact⟨by rw[zu F];rfl,(zu S3).b⟩
 go_wp2_with fail
 refine(iTradesFit _ x b3 (zu S3).r (zu H0).yes (zu H3)).mono ?_
 rintro e w4 ⟨rfl,bb⟩
 have S4:=zh ((zu S3).step bb)
 clear bb
 clear c0 c1 c2 c3 c4 c5
 obtain⟨c0,c1,c2,c3,c4,c5⟩:=(zu S4).c
 cases b3
 ·have F:=zh ((zu T).not (fun hh=>(zu H3).no hh.2.2.2))
  clear T
  go_wp2
  go_ret
  exact⟨by rw[zu F];rfl,(zu S4).b⟩
 have F:=zh ((zu T).of ⟨(zu H0).yes,(zu H1).yes,(zu H2).yes,(zu H3).yes⟩)
 clear T
 go_wp2
 go_ret
 exact⟨by rw[zu F];rfl,(zu S4).b⟩
end IBooksOkV13
end Go.Proofs.YtlbgfdpcgpijhaaGreat
