/- Lemmas. -/
import Derived.Test.YtcjgepkdpkhljaaGreatQG19
import Derived.Test.YtcjgepkdpkhljaaGreatQG20
open Go.ChangeShapes Go.WideShapes Go.ChangeAt Go.RowKit
set_option linter.unusedVariables false
set_option linter.unusedSimpArgs false
set_option maxRecDepth 100000
set_option maxHeartbeats 32000000
namespace Go.Proofs.YtcjgepkdpkhljaaGreat
namespace SCarry
open BMem Bks ILists BHelp Ans SBk
open SIssue (six_alloc ow_six_alloc box_six_alloc to_wb off_box ne_true)
open IBalsFit (one_more)
open Lots (Says says_of NoOk)
open Bals (T3)
open Tup5 (T5)
def Carried(b:Bk)(x y i q way:Int)(b':Bk)(t c:Int):Prop:=
 ∃b2 k2 c2,IsTake b x i q way b2 k2 c2∧((c2≠0∧t=0∧c=c2)∨(c2=0∧IsOpen b2 y i q k2 b' c∧t=k2))
theorem taken_cases(bad short:Bool):(bad=false∧short=false)∨(STake.takeD bad short≠0∧¬(bad=false∧short=false)):=by
 cases bad<;>cases short<;>simp[STake.takeD]
theorem says_false{p:Prop}(h:¬p):Says false p:=⟨fun e=>Bool.noConfusion e,fun r=>absurd r h⟩
theorem taken_len{b:Bk}{a i q way:Int}(h:CanTake b a i q way)(s:Small b):(takenL b a i q way).length≤1048576:=by
 have:=ITake.take_len (ps:=b.ls) (R:=takenL b a i q way) (a:=a) (i:=i) (q:=q) (way:=way) (bad:=false) (short:=false) (says_false (fun n=>n ⟨h.1,h.2.1,h.2.2.1⟩)) (says_false h.2.2.2) rfl
 exact Nat.le_trans this (by omega)
theorem sCarry(w:World)(base:Nat)(x:Bx)(fa fb fi fq fk:Int)(O:Ow w base x)(hlot:0≤x.b.lot∧x.b.lot≤1000000000)(s:Small x.b):
  Calls Tryz.prog 80 #[.agg #[.slice (some ⟨x.ga,0,none⟩) x.b.ac.length x.ca,.slice (some ⟨x.gi,0,none⟩) x.b.ic.length x.ci,.slice (some ⟨x.gb,0,none⟩) x.b.bs.length x.cb,.slice (some ⟨x.gl,0,none⟩) x.b.ls.length x.cl,.slice (some ⟨x.gt,0,none⟩) x.b.ts.length x.ct,.int .i64 x.b.lot],.int .i64 fa,.int .i64 fb,.int .i64 fi,.int .i64 fq,.int .i64 fk,.int .i64 (-1)] w fun e w'=>∃(y:Bx) (t c:Int),Carried x.b fa fb fi fq fk y.b t c∧e= .returned (.tuple #[.agg #[.slice (some ⟨y.ga,0,none⟩) y.b.ac.length y.ca,.slice (some ⟨y.gi,0,none⟩) y.b.ic.length y.ci,.slice (some ⟨y.gb,0,none⟩) y.b.bs.length y.cb,.slice (some ⟨y.gl,0,none⟩) y.b.ls.length y.cl,.slice (some ⟨y.gt,0,none⟩) y.b.ts.length y.ct,.int .i64 y.b.lot],.int .i64 t,.int .i64 c])∧Ow w' base y∧Below w.heap.size w w':=by
 obtain⟨bad,hbad⟩:=says_of (¬STake.TakeOk x.b.ls fq fk)
 obtain⟨short,hshort⟩:=says_of (Takes.sumQ (Lots.ownL x.b.ls fa fi)<fq)
 have HB:=zh hbad
 have HS:=zh hshort
 have R0:=zh (O.rd s)
 have O0:=zh O
 have U0:=zh (ow_up O)
 have S1:=zh (SV.start w x)
 have SM:=zh s
 have HL:=zh hlot
 have nl:=s.2.2.2.1
 clear O s hbad hshort hlot
 go_enter Tryz.func80,Tryz.ntmps80
 go_wp2_with fail
 generalize ((w.alloc (.cells #[.slice (some ⟨x.ga,0,none⟩) x.b.ac.length x.ca,.slice (some ⟨x.gi,0,none⟩) x.b.ic.length x.ci,.slice (some ⟨x.gb,0,none⟩) x.b.bs.length x.cb,.slice (some ⟨x.gl,0,none⟩) x.b.ls.length x.cl,.slice (some ⟨x.gt,0,none⟩) x.b.ts.length x.ct,.int .i64 x.b.lot] 44)).alloc (.cells #[.slice none 0 0,.slice none 0 0,.slice none 0 0,.slice none 0 0,.slice none 0 0,.int .i64 0] 44))=w1 at *
 refine(STake.sTake w1 x.gl _ x.cl x.b.ls (takenL x.b fa fi fq fk) fa fi fq fk bad short rfl nl ((zu R0).below (zu S1).b).ll ((zu R0).below (zu S1).b).rl (zu HB) (zu HS) (fun _ _=>rfl)).mono ?_
 rintro e w2 ⟨g2,k2,rfl,o2,bb⟩
 have S2:=zh ((zu S1).step bb)
 have OX:=zh ((zu O0).below (zu S2).b (Nat.le_refl _))
 have BW:=zh (zu S2).b
 have O2:=zh o2
 have g2l:=o2.lt.1
 have z1:=(zu S1).v.lt.2
 have zb:=(zu O0).oa.lt
 have z2:=(zu S2).v.lt.2
 clear o2 bb
 have c0:=(zu S2).x.c0
 have c1:=(zu S2).x.c1
 have c2:=(zu S2).x.c2
 have c3:=(zu S2).x.c3
 have c4:=(zu S2).x.c4
 have c5:=(zu S2).x.c5
 have x3:=(zu S2).x.free 3
 rcases taken_cases bad short with⟨rfl,rfl⟩|⟨hne,hno⟩
 ·have CT:=zh (show CanTake x.b fa fi fq fk from by
   have hb:=Classical.byContradiction (zu HB).no
   exact⟨hb.1,hb.2.1,hb.2.2,(zu HS).no⟩)
  obtain⟨R,hR⟩:∃R,Hid (takenL x.b fa fi fq fk=R):=⟨_,rfl⟩
  obtain⟨ck,hck⟩:∃ck,Hid (Takes.takeC fk (Lots.ownL x.b.ls fa fi) fq=ck):=⟨_,rfl⟩
  have O2:=zh (show Tup5.Own5 188 w2 w1.heap.size g2 R.length k2 R from by rw[←zu hR];exact zu O2)
  have OY:=zh (ow_withL (lot:=x.b.lot) (zu OX) ((zu O2).rebase (base':=base) (by omega)))
  have F1:=zh (off_withL (c:=k2) (qs:=R) (lot:=x.b.lot) (zu U0) (Nat.le_refl w.heap.size) (show w.heap.size<g2 by omega))
  have TK:=zh (show IsTake x.b fa fi fq fk (withL x g2 k2 R x.b.lot).b ck 0 from .inl ⟨zu CT,by rw[←zu hR],(zu hck).symm,rfl⟩)
  have SY:=zh (show Small (withL x g2 k2 R x.b.lot).b from by
   have:=taken_len (zu CT) (zu SM)
   rw[zu hR] at this
   obtain⟨a,b,c,d,e⟩:=zu SM
   exact⟨a,b,c,this,e⟩)
  rw[show(STake.takeA x.b.ls (takenL x.b fa fi fq fk) false false).length=R.length from by rw[←zu hR];rfl,show STake.takeK (Takes.takeC fk (Lots.ownL x.b.ls fa fi) fq) false false=ck from by rw[←zu hck];rfl,show STake.takeD false false=0 from rfl]
  go_wp2_with fail
  refine(sOpenB _ base (withL x g2 k2 R x.b.lot) fb fi fq ck (ow_set (zu OY) (zu F1) 3 _) (zu HL) (zu SY)).mono ?_
  rintro e w3 ⟨y,c,ho,rfl,o3,bb⟩
  have V3:=zh (Box.below (row_set (zu S2).v (show w.heap.size+1≠w.heap.size by omega) 3 (.slice (some ⟨g2,0,none⟩) R.length k2)) bb (by simpa using z2))
  have B3:=zh (((zu BW).setCell (p:=⟨w.heap.size,3,none⟩) (Nat.le_refl _) _).trans (bb.mono (by simpa using(zu BW).size)))
  have O3:=zh o3
  have HO:=zh ho
  have F3:=zh (off_box o3 (zu V3))
  have l3:=(zu V3).lt.2
  have l4:w.heap.size+1≠w3.heap.size:=by omega
  clear bb o3 ho c0 c1 c2 c3 c4 c5 x3
  obtain⟨r0,r1,r2,r3,r4,r5,f0,f1,f2,f3,f4,f5⟩:=Box.all (zu V3)
  go_wp2
  refine to_wb (fun W=>Box W w.heap.size (w.heap.size+1) (.slice (some ⟨y.ga,0,none⟩) y.b.ac.length y.ca) (.slice (some ⟨y.gi,0,none⟩) y.b.ic.length y.ci) (.slice (some ⟨y.gb,0,none⟩) y.b.bs.length y.cb) (.slice (some ⟨y.gl,0,none⟩) y.b.ls.length y.cl) (.slice (some ⟨y.gt,0,none⟩) y.b.ts.length y.ct) (.int .i64 y.b.lot)∧Below w.heap.size w W∧Ow W base y) ?_ ?_
  ·exact⟨box_six_alloc (zu V3) _ _ _ _ _ _ _,six_alloc (zu B3) (zu B3).size (by omega) _ _ _ _ _ _ _,ow_six_alloc (zu O3) (zu F3) (Nat.le_refl _) _ _ _ _ _ _ _⟩
  rintro W ⟨X,B,OW⟩
  have p0:=X.c0
  have p1:=X.c1
  have p2:=X.c2
  have p3:=X.c3
  have p4:=X.c4
  have p5:=X.c5
  exact bodyPost_ret (v:= .tuple #[.agg #[.slice (some ⟨y.ga,0,none⟩) y.b.ac.length y.ca,.slice (some ⟨y.gi,0,none⟩) y.b.ic.length y.ci,.slice (some ⟨y.gb,0,none⟩) y.b.bs.length y.cb,.slice (some ⟨y.gl,0,none⟩) y.b.ls.length y.cl,.slice (some ⟨y.gt,0,none⟩) y.b.ts.length y.ct,.int .i64 y.b.lot],.int .i64 ck,.int .i64 c]) (by simp[results,Tryz.results80,go_sem,p0,p1,p2,p3,p4,p5]) rfl ⟨y,ck,c,⟨_,ck,0,zu TK,.inr ⟨rfl,zu HO,rfl⟩⟩,rfl,OW,B⟩
 ·have CT:=zh (show ¬CanTake x.b fa fi fq fk from fun h=>hno ⟨(zu HB).not (fun r=>r ⟨h.1,h.2.1,h.2.2.1⟩),(zu HS).not h.2.2.2⟩)
  obtain⟨c,hc⟩:∃c,Hid (STake.takeD bad short=c):=⟨_,rfl⟩
  have cb:(c !=0)=true:=by rw[←zu hc];simpa using hne
  rw[zu hc]
  clear hne hno
  obtain⟨r0,r1,r2,r3,r4,r5,f0,f1,f2,f3,f4,f5⟩:=Box.all ((zu S2).v)
  go_wp2
  refine bodyPost_ret (v:= .tuple #[.agg #[.slice (some ⟨x.ga,0,none⟩) x.b.ac.length x.ca,.slice (some ⟨x.gi,0,none⟩) x.b.ic.length x.ci,.slice (some ⟨x.gb,0,none⟩) x.b.bs.length x.cb,.slice (some ⟨x.gl,0,none⟩) x.b.ls.length x.cl,.slice (some ⟨x.gt,0,none⟩) x.b.ts.length x.ct,.int .i64 x.b.lot],.int .i64 0,.int .i64 5]) (by simp[results,Tryz.results80,go_sem,r0,r1,r2,r3,r4,r5]) rfl ⟨x,0,5,⟨x.b,0,5,.inr ⟨zu CT,rfl,rfl,rfl⟩,.inl ⟨by omega,rfl,rfl⟩⟩,rfl,?_,?_⟩
  ·exact ow_six (zu OX) (off_up (zu U0) (by omega)) _ _ _ _ _ _
  ·exact Ans.six (zu BW) (by omega) _ _ _ _ _ _
end SCarry
namespace SMove
open BMem Bks ILists BHelp Ans SBk
open IBalsFit (one_more)
open Lots (Says says_of NoOk)
open Quieter (Near near_is quiet_near)
open Bals (T3)
open Tup5 (T5)
open SIssue (posted_small posted_lot six_alloc ow_six_alloc box_six_alloc to_wb off_box ne_true ne_false eq_true eq_false)
open SCarry (Carried)
def ToldM(b:Bk)(fa fb fi fq fk:Int):Prop:=Ok b∧NoOk fa∧NoOk fb∧NoOk fi∧(1≤fq∧fq≤1000000000000000)∧(1≤fk∧fk≤3)
def AnsM(told:Prop)(P:Bk→Int→Int→Prop)(w:World)(e:Ending)(w':World):Prop:=
 (¬told∧e= .returned (.tuple #[.agg #[.slice none 0 0,.slice none 0 0,.slice none 0 0,.slice none 0 0,.slice none 0 0,.int .i64 0],.int .i64 0,.int .i64 1])∧Below w.heap.size w w')∨
 (told∧∃(z:Bx) (t c:Int),P z.b t c∧e= .returned (.tuple #[.agg #[.slice (some ⟨z.ga,0,none⟩) z.b.ac.length z.ca,.slice (some ⟨z.gi,0,none⟩) z.b.ic.length z.ci,.slice (some ⟨z.gb,0,none⟩) z.b.bs.length z.cb,.slice (some ⟨z.gl,0,none⟩) z.b.ls.length z.cl,.slice (some ⟨z.gt,0,none⟩) z.b.ts.length z.ct,.int .i64 z.b.lot],.int .i64 t,.int .i64 c])∧Ow w' w.heap.size z∧Below w.heap.size w w')
theorem sMove(w:World)(x:Bx)(fa fb fi fq fk:Int)(hr:Rd w x):
  Calls Tryz.prog 50 #[.agg #[.slice (some ⟨x.ga,0,none⟩) x.b.ac.length x.ca,.slice (some ⟨x.gi,0,none⟩) x.b.ic.length x.ci,.slice (some ⟨x.gb,0,none⟩) x.b.bs.length x.cb,.slice (some ⟨x.gl,0,none⟩) x.b.ls.length x.cl,.slice (some ⟨x.gt,0,none⟩) x.b.ts.length x.ct,.int .i64 x.b.lot],.int .i64 fa,.int .i64 fb,.int .i64 fi,.int .i64 fq,.int .i64 fk] w (AnsM (ToldM x.b fa fb fi fq fk) (IsMove x.b fa fb fi fq fk) w):=by
 obtain⟨b0,h0⟩:=says_of (Ok x.b)
 obtain⟨b1,h1⟩:=says_of (NoOk fa)
 obtain⟨b2,h2⟩:=says_of (NoOk fb)
 obtain⟨b3,h3⟩:=says_of (NoOk fi)
 obtain⟨b4,h4⟩:=says_of (1≤fq∧fq≤1000000000000000)
 obtain⟨b5,h5⟩:=says_of (1≤fk∧fk≤3)
 have H0:=zh h0
 have H1:=zh h1
 have H2:=zh h2
 have H3:=zh h3
 have H4:=zh h4
 have H5:=zh h5
 have S0:=zh (SR.start hr)
 have HR:=zh hr
 clear h0 h1 h2 h3 h4 h5 hr
 go_enter Tryz.func50,Tryz.ntmps50
 go_wp2_with fail
 refine(SBooksOk.sBooksOk _ x b0 (zu S0).r (zu H0)).mono ?_
 rintro e w1 ⟨rfl,bb⟩
 have S1:=zh ((zu S0).step bb)
 have B1:=zh (zu S1).b
 clear bb
 obtain⟨c0,c1,c2,c3,c4,c5⟩:=(zu S1).c
 obtain⟨r0,r1,r2,r3,r4,r5,f0,f1,f2,f3,f4,f5⟩:=Box.all ((zu S1).v)
 cases b0
 ·have N:=zh (show ¬ToldM x.b fa fb fi fq fk from fun hh=>(zu H0).no hh.1)
  go_wp2
  refine bodyPost_ret (v:= .tuple #[.agg #[.slice none 0 0,.slice none 0 0,.slice none 0 0,.slice none 0 0,.slice none 0 0,.int .i64 0],.int .i64 0,.int .i64 1]) (by simp[results,Tryz.results50,go_sem,r0,r1,r2,r3,r4,r5]) rfl (.inl ⟨zu N,rfl,?_⟩)
  exact six (zu B1) (by omega) _ _ _ _ _ _
 go_wp2_with fail
 refine(SOk5.sNo fa b1 _ (zu H1)).mono ?_
 rintro e v1 ⟨rfl,rfl⟩
 cases b1
 ·have N:=zh (show ¬ToldM x.b fa fb fi fq fk from fun hh=>(zu H1).no hh.2.1)
  go_wp2
  refine bodyPost_ret (v:= .tuple #[.agg #[.slice none 0 0,.slice none 0 0,.slice none 0 0,.slice none 0 0,.slice none 0 0,.int .i64 0],.int .i64 0,.int .i64 1]) (by simp[results,Tryz.results50,go_sem,r0,r1,r2,r3,r4,r5]) rfl (.inl ⟨zu N,rfl,?_⟩)
  exact six (zu B1) (by omega) _ _ _ _ _ _
 go_wp2_with fail
 refine(SOk5.sNo fb b2 _ (zu H2)).mono ?_
 rintro e v2 ⟨rfl,rfl⟩
 cases b2
 ·have N:=zh (show ¬ToldM x.b fa fb fi fq fk from fun hh=>(zu H2).no hh.2.2.1)
  go_wp2
  refine bodyPost_ret (v:= .tuple #[.agg #[.slice none 0 0,.slice none 0 0,.slice none 0 0,.slice none 0 0,.slice none 0 0,.int .i64 0],.int .i64 0,.int .i64 1]) (by simp[results,Tryz.results50,go_sem,r0,r1,r2,r3,r4,r5]) rfl (.inl ⟨zu N,rfl,?_⟩)
  exact six (zu B1) (by omega) _ _ _ _ _ _
 go_wp2_with fail
 refine(SOk5.sNo fi b3 _ (zu H3)).mono ?_
 rintro e v3 ⟨rfl,rfl⟩
 cases b3
 ·have N:=zh (show ¬ToldM x.b fa fb fi fq fk from fun hh=>(zu H3).no hh.2.2.2.1)
  go_wp2
  refine bodyPost_ret (v:= .tuple #[.agg #[.slice none 0 0,.slice none 0 0,.slice none 0 0,.slice none 0 0,.slice none 0 0,.int .i64 0],.int .i64 0,.int .i64 1]) (by simp[results,Tryz.results50,go_sem,r0,r1,r2,r3,r4,r5]) rfl (.inl ⟨zu N,rfl,?_⟩)
  exact six (zu B1) (by omega) _ _ _ _ _ _
 go_wp2_with fail
 refine(SOk5.sSome fq 1 b4 _ (zu H4)).mono ?_
 rintro e v4 ⟨rfl,rfl⟩
 cases b4
 ·have N:=zh (show ¬ToldM x.b fa fb fi fq fk from fun hh=>(zu H4).no hh.2.2.2.2.1)
  go_wp2
  refine bodyPost_ret (v:= .tuple #[.agg #[.slice none 0 0,.slice none 0 0,.slice none 0 0,.slice none 0 0,.slice none 0 0,.int .i64 0],.int .i64 0,.int .i64 1]) (by simp[results,Tryz.results50,go_sem,r0,r1,r2,r3,r4,r5]) rfl (.inl ⟨zu N,rfl,?_⟩)
  exact six (zu B1) (by omega) _ _ _ _ _ _
 go_wp2_with fail
 refine(SOk5.sIn fk 1 3 b5 _ (zu H5)).mono ?_
 rintro e v5 ⟨rfl,rfl⟩
 cases b5
 ·have N:=zh (show ¬ToldM x.b fa fb fi fq fk from fun hh=>(zu H5).no hh.2.2.2.2.2)
  go_wp2
  refine bodyPost_ret (v:= .tuple #[.agg #[.slice none 0 0,.slice none 0 0,.slice none 0 0,.slice none 0 0,.slice none 0 0,.int .i64 0],.int .i64 0,.int .i64 1]) (by simp[results,Tryz.results50,go_sem,r0,r1,r2,r3,r4,r5]) rfl (.inl ⟨zu N,rfl,?_⟩)
  exact six (zu B1) (by omega) _ _ _ _ _ _
 have TT:=zh (show ToldM x.b fa fb fi fq fk from⟨(zu H0).yes,(zu H1).yes,(zu H2).yes,(zu H3).yes,(zu H4).yes,(zu H5).yes⟩)
 have LI:=zh (zu H0).yes.1
 have SM:=zh (ok_small (zu H0).yes)
 obtain⟨K1,hK1⟩:∃K,Hid (kindOf x.b.ac fa=K):=⟨_,rfl⟩
 obtain⟨K2,hK2⟩:∃K,Hid (kindOf x.b.ac fb=K):=⟨_,rfl⟩
 obtain⟨K3,hK3⟩:∃K,Hid (kindOf x.b.ic fi=K):=⟨_,rfl⟩
 have K4:=And.intro c0 c1
 have M1:=trivial
 clear c0 c1 c2 c3 c4 c5 r0 r1 r2 r3 r4 r5 f0 f1 f2 f3 f4 f5
 clear H0 H1 H2 H3 H4 H5 S0
 go_wp2_with fail
 go_region_held3 (fun w'=>w'.cell? ⟨w.heap.size,0,none⟩=some (.slice (some ⟨x.ga,0,none⟩) x.b.ac.length x.ca)∧w'.cell? ⟨w.heap.size,1,none⟩=some (.slice (some ⟨x.gi,0,none⟩) x.b.ic.length x.ci)) (first|exact K4|exact K5|exact K6|exact K7)
  (first|(go_at_call 72;clear M1;refine(SBals.sKindA v5.drew x fa K1 ((zu S1).r.below (Below.refl _ _).drew) (zu LI).1 (zu hK1)).mono ?_;rintro e u1 ⟨rfl,bb⟩;have bW:Below v5.heap.size v5 u1:=ILotsFit.below_of_drew bb;have T1:=zh ((zu S1).step bW);have K5:=And.intro (zu T1).c.c0 (zu T1).c.c1;clear bb bW)|(go_at_call 72;refine(SBals.sKindA u1 x fb K2 (zu T1).r (zu LI).1 (zu hK2)).mono ?_;rintro e u2 ⟨rfl,bb2⟩;have T2:=zh ((zu T1).step bb2);have K6:=And.intro (zu T2).c.c0 (zu T2).c.c1;clear bb2)|(go_at_call 73;refine(SBals.sKindI u2 x fi K3 (zu T2).r (zu LI).2.1 (zu hK3)).mono ?_;rintro e w2 ⟨rfl,bb3⟩;have S2:=zh ((zu T2).step bb3);have K7:=And.intro (zu S2).c.c0 (zu S2).c.c1;clear bb3))
 clear K4 K5 K6 K7 T1 T2
 obtain⟨c0,c1,c2,c3,c4,c5⟩:=(zu S2).c
 obtain⟨r0,r1,r2,r3,r4,r5,f0,f1,f2,f3,f4,f5⟩:=Box.all ((zu S2).v)
 have KIN:=zh (kind_in (zu LI).2.1 fi)
 have zero:((K1==0)=true∨((K1==0)=false∧(K2==0)=true)∨((K1==0)=false∧(K2==0)=false∧(K3==0)=true))∧Hid (kindOf x.b.ac fa=0∨kindOf x.b.ac fb=0∨kindOf x.b.ic fi=0)∨((K1==0)=false∧(K2==0)=false∧(K3==0)=false)∧Hid (¬(kindOf x.b.ac fa=0∨kindOf x.b.ac fb=0∨kindOf x.b.ic fi=0)):=by
  rw[zu hK1,zu hK2,zu hK3]
  by_cases k1:K1=0
  ·exact .inl ⟨.inl (eq_true k1),.inl k1⟩
  by_cases k2:K2=0
  ·exact .inl ⟨.inr (.inl ⟨eq_false k1,eq_true k2⟩),.inr (.inl k2)⟩
  by_cases k3:K3=0
  ·exact .inl ⟨.inr (.inr ⟨eq_false k1,eq_false k2,eq_true k3⟩),.inr (.inr k3)⟩
  ·exact .inr ⟨⟨eq_false k1,eq_false k2,eq_false k3⟩,fun hh=>by omega⟩
 obtain⟨Z,ZZ⟩|⟨⟨n1,n2,n3⟩,NZ⟩:=zero
 ·have I3:=zh (show IsMove x.b fa fb fi fq fk x.b 0 3 from .inl ⟨zu ZZ,rfl,rfl,rfl⟩)
  clear hK1 hK2 hK3 KIN ZZ
  obtain n1|⟨n1,n2⟩|⟨n1,n2,n3⟩:=Z
  ·have skip:=trivial
   go_wp2_with fail
   refine(SCopy.sCopy _ x (zu S2).r).mono ?_
   rintro e w8 ⟨z,hz,rfl,oz,bb⟩
   have S8:=zh ((zu S2).step bb)
   have OZ:=zh (oz.rebase (zu S2).b.size)
   have LZ:=zh (ow_lo oz)
   have zl:=(zu S2).v.lt.2
   have IZ:=zh (show IsMove x.b fa fb fi fq fk z.b 0 3 from by rw[hz];exact(zu I3))
   clear bb oz hz
   clear c0 c1 c2 c3 c4 c5 r0 r1 r2 r3 r4 r5 f0 f1 f2 f3 f4 f5
   obtain⟨c0,c1,c2,c3,c4,c5⟩:=(zu S8).c
   obtain⟨r0,r1,r2,r3,r4,r5,f0,f1,f2,f3,f4,f5⟩:=Box.all ((zu S8).v)
   go_wp2
   refine bodyPost_ret (v:= .tuple #[.agg #[.slice (some ⟨z.ga,0,none⟩) z.b.ac.length z.ca,.slice (some ⟨z.gi,0,none⟩) z.b.ic.length z.ci,.slice (some ⟨z.gb,0,none⟩) z.b.bs.length z.cb,.slice (some ⟨z.gl,0,none⟩) z.b.ls.length z.cl,.slice (some ⟨z.gt,0,none⟩) z.b.ts.length z.ct,.int .i64 z.b.lot],.int .i64 0,.int .i64 3]) (by simp[results,Tryz.results50,go_sem,r0,r1,r2,r3,r4,r5]) rfl (.inr ⟨zu TT,z,0,3,zu IZ,rfl,?_,?_⟩)
   ·exact ow_six (zu OZ) (off_lo (zu LZ) zl) _ _ _ _ _ _
   ·exact six (zu S8).b (by omega) _ _ _ _ _ _
  ·have skip:=trivial
   go_wp2_with fail
   refine(SCopy.sCopy _ x (zu S2).r).mono ?_
   rintro e w8 ⟨z,hz,rfl,oz,bb⟩
   have S8:=zh ((zu S2).step bb)
   have OZ:=zh (oz.rebase (zu S2).b.size)
   have LZ:=zh (ow_lo oz)
   have zl:=(zu S2).v.lt.2
   have IZ:=zh (show IsMove x.b fa fb fi fq fk z.b 0 3 from by rw[hz];exact(zu I3))
   clear bb oz hz
   clear c0 c1 c2 c3 c4 c5 r0 r1 r2 r3 r4 r5 f0 f1 f2 f3 f4 f5
   obtain⟨c0,c1,c2,c3,c4,c5⟩:=(zu S8).c
   obtain⟨r0,r1,r2,r3,r4,r5,f0,f1,f2,f3,f4,f5⟩:=Box.all ((zu S8).v)
   go_wp2
   refine bodyPost_ret (v:= .tuple #[.agg #[.slice (some ⟨z.ga,0,none⟩) z.b.ac.length z.ca,.slice (some ⟨z.gi,0,none⟩) z.b.ic.length z.ci,.slice (some ⟨z.gb,0,none⟩) z.b.bs.length z.cb,.slice (some ⟨z.gl,0,none⟩) z.b.ls.length z.cl,.slice (some ⟨z.gt,0,none⟩) z.b.ts.length z.ct,.int .i64 z.b.lot],.int .i64 0,.int .i64 3]) (by simp[results,Tryz.results50,go_sem,r0,r1,r2,r3,r4,r5]) rfl (.inr ⟨zu TT,z,0,3,zu IZ,rfl,?_,?_⟩)
   ·exact ow_six (zu OZ) (off_lo (zu LZ) zl) _ _ _ _ _ _
   ·exact six (zu S8).b (by omega) _ _ _ _ _ _
  ·have skip:=trivial
   go_wp2_with fail
   refine(SCopy.sCopy _ x (zu S2).r).mono ?_
   rintro e w8 ⟨z,hz,rfl,oz,bb⟩
   have S8:=zh ((zu S2).step bb)
   have OZ:=zh (oz.rebase (zu S2).b.size)
   have LZ:=zh (ow_lo oz)
   have zl:=(zu S2).v.lt.2
   have IZ:=zh (show IsMove x.b fa fb fi fq fk z.b 0 3 from by rw[hz];exact(zu I3))
   clear bb oz hz
   clear c0 c1 c2 c3 c4 c5 r0 r1 r2 r3 r4 r5 f0 f1 f2 f3 f4 f5
   obtain⟨c0,c1,c2,c3,c4,c5⟩:=(zu S8).c
   obtain⟨r0,r1,r2,r3,r4,r5,f0,f1,f2,f3,f4,f5⟩:=Box.all ((zu S8).v)
   go_wp2
   refine bodyPost_ret (v:= .tuple #[.agg #[.slice (some ⟨z.ga,0,none⟩) z.b.ac.length z.ca,.slice (some ⟨z.gi,0,none⟩) z.b.ic.length z.ci,.slice (some ⟨z.gb,0,none⟩) z.b.bs.length z.cb,.slice (some ⟨z.gl,0,none⟩) z.b.ls.length z.cl,.slice (some ⟨z.gt,0,none⟩) z.b.ts.length z.ct,.int .i64 z.b.lot],.int .i64 0,.int .i64 3]) (by simp[results,Tryz.results50,go_sem,r0,r1,r2,r3,r4,r5]) rfl (.inr ⟨zu TT,z,0,3,zu IZ,rfl,?_,?_⟩)
   ·exact ow_six (zu OZ) (off_lo (zu LZ) zl) _ _ _ _ _ _
   ·exact six (zu S8).b (by omega) _ _ _ _ _ _
 have kinds:(((K1 !=1)=true∨((K1 !=1)=false∧(K2 !=1)=true)∨((K1 !=1)=false∧(K2 !=1)=false∧(fa==fb)=true)))∧Hid (kindOf x.b.ac fa≠1∨kindOf x.b.ac fb≠1∨fa=fb)∨((K1 !=1)=false∧(K2 !=1)=false∧(fa==fb)=false)∧Hid (¬(kindOf x.b.ac fa≠1∨kindOf x.b.ac fb≠1∨fa=fb)):=by
  rw[zu hK1,zu hK2]
  by_cases k1:K1=1
  ·by_cases k2:K2=1
   ·by_cases k3:fa=fb
    ·exact .inl ⟨.inr (.inr ⟨ne_false k1,ne_false k2,eq_true k3⟩),.inr (.inr k3)⟩
    ·exact .inr ⟨⟨ne_false k1,ne_false k2,eq_false k3⟩,fun hh=>by omega⟩
   ·exact .inl ⟨.inr (.inl ⟨ne_false k1,ne_true k2⟩),.inr (.inl k2)⟩
  ·exact .inl ⟨.inl (ne_true k1),.inl k1⟩
 obtain⟨Z,ZZ⟩|⟨Z,NK⟩:=kinds
 ·have I4:=zh (show IsMove x.b fa fb fi fq fk x.b 0 4 from .inr (.inl ⟨zu NZ,zu ZZ,rfl,rfl,rfl⟩))
  clear hK1 hK2 hK3 KIN ZZ NZ
  obtain m1|⟨m1,m2⟩|⟨m1,m2,m3⟩:=Z
  ·have skip:=trivial
   go_wp2_with fail
   refine(SCopy.sCopy _ x (zu S2).r).mono ?_
   rintro e w8 ⟨z,hz,rfl,oz,bb⟩
   have S8:=zh ((zu S2).step bb)
   have OZ:=zh (oz.rebase (zu S2).b.size)
   have LZ:=zh (ow_lo oz)
   have zl:=(zu S2).v.lt.2
   have IZ:=zh (show IsMove x.b fa fb fi fq fk z.b 0 4 from by rw[hz];exact(zu I4))
   clear bb oz hz
   clear c0 c1 c2 c3 c4 c5 r0 r1 r2 r3 r4 r5 f0 f1 f2 f3 f4 f5
   obtain⟨c0,c1,c2,c3,c4,c5⟩:=(zu S8).c
   obtain⟨r0,r1,r2,r3,r4,r5,f0,f1,f2,f3,f4,f5⟩:=Box.all ((zu S8).v)
   go_wp2
   refine bodyPost_ret (v:= .tuple #[.agg #[.slice (some ⟨z.ga,0,none⟩) z.b.ac.length z.ca,.slice (some ⟨z.gi,0,none⟩) z.b.ic.length z.ci,.slice (some ⟨z.gb,0,none⟩) z.b.bs.length z.cb,.slice (some ⟨z.gl,0,none⟩) z.b.ls.length z.cl,.slice (some ⟨z.gt,0,none⟩) z.b.ts.length z.ct,.int .i64 z.b.lot],.int .i64 0,.int .i64 4]) (by simp[results,Tryz.results50,go_sem,r0,r1,r2,r3,r4,r5]) rfl (.inr ⟨zu TT,z,0,4,zu IZ,rfl,?_,?_⟩)
   ·exact ow_six (zu OZ) (off_lo (zu LZ) zl) _ _ _ _ _ _
   ·exact six (zu S8).b (by omega) _ _ _ _ _ _
  ·have skip:=trivial
   go_wp2_with fail
   refine(SCopy.sCopy _ x (zu S2).r).mono ?_
   rintro e w8 ⟨z,hz,rfl,oz,bb⟩
   have S8:=zh ((zu S2).step bb)
   have OZ:=zh (oz.rebase (zu S2).b.size)
   have LZ:=zh (ow_lo oz)
   have zl:=(zu S2).v.lt.2
   have IZ:=zh (show IsMove x.b fa fb fi fq fk z.b 0 4 from by rw[hz];exact(zu I4))
   clear bb oz hz
   clear c0 c1 c2 c3 c4 c5 r0 r1 r2 r3 r4 r5 f0 f1 f2 f3 f4 f5
   obtain⟨c0,c1,c2,c3,c4,c5⟩:=(zu S8).c
   obtain⟨r0,r1,r2,r3,r4,r5,f0,f1,f2,f3,f4,f5⟩:=Box.all ((zu S8).v)
   go_wp2
   refine bodyPost_ret (v:= .tuple #[.agg #[.slice (some ⟨z.ga,0,none⟩) z.b.ac.length z.ca,.slice (some ⟨z.gi,0,none⟩) z.b.ic.length z.ci,.slice (some ⟨z.gb,0,none⟩) z.b.bs.length z.cb,.slice (some ⟨z.gl,0,none⟩) z.b.ls.length z.cl,.slice (some ⟨z.gt,0,none⟩) z.b.ts.length z.ct,.int .i64 z.b.lot],.int .i64 0,.int .i64 4]) (by simp[results,Tryz.results50,go_sem,r0,r1,r2,r3,r4,r5]) rfl (.inr ⟨zu TT,z,0,4,zu IZ,rfl,?_,?_⟩)
   ·exact ow_six (zu OZ) (off_lo (zu LZ) zl) _ _ _ _ _ _
   ·exact six (zu S8).b (by omega) _ _ _ _ _ _
  ·have skip:=trivial
   go_wp2_with fail
   refine(SCopy.sCopy _ x (zu S2).r).mono ?_
   rintro e w8 ⟨z,hz,rfl,oz,bb⟩
   have S8:=zh ((zu S2).step bb)
   have OZ:=zh (oz.rebase (zu S2).b.size)
   have LZ:=zh (ow_lo oz)
   have zl:=(zu S2).v.lt.2
   have IZ:=zh (show IsMove x.b fa fb fi fq fk z.b 0 4 from by rw[hz];exact(zu I4))
   clear bb oz hz
   clear c0 c1 c2 c3 c4 c5 r0 r1 r2 r3 r4 r5 f0 f1 f2 f3 f4 f5
   obtain⟨c0,c1,c2,c3,c4,c5⟩:=(zu S8).c
   obtain⟨r0,r1,r2,r3,r4,r5,f0,f1,f2,f3,f4,f5⟩:=Box.all ((zu S8).v)
   go_wp2
   refine bodyPost_ret (v:= .tuple #[.agg #[.slice (some ⟨z.ga,0,none⟩) z.b.ac.length z.ca,.slice (some ⟨z.gi,0,none⟩) z.b.ic.length z.ci,.slice (some ⟨z.gb,0,none⟩) z.b.bs.length z.cb,.slice (some ⟨z.gl,0,none⟩) z.b.ls.length z.cl,.slice (some ⟨z.gt,0,none⟩) z.b.ts.length z.ct,.int .i64 z.b.lot],.int .i64 0,.int .i64 4]) (by simp[results,Tryz.results50,go_sem,r0,r1,r2,r3,r4,r5]) rfl (.inr ⟨zu TT,z,0,4,zu IZ,rfl,?_,?_⟩)
   ·exact ow_six (zu OZ) (off_lo (zu LZ) zl) _ _ _ _ _ _
   ·exact six (zu S8).b (by omega) _ _ _ _ _ _
 clear hK1 hK2
 obtain⟨m1,m2,Z⟩:=Z
 have K3IN:=zh (show K3=1∨K3=2 from by
  have a:=zu KIN
  have b:=zu NZ
  have c:=zu hK3
  omega)
 have m3:=Z
 all_goals
  go_wp2_with fail
  refine(SCopy.sCopy _ x (zu S2).r).mono ?_
  rintro e w3 ⟨z,hz,rfl,oz,bb⟩
  have S3:=zh ((zu S2).step bb)
  have OZ:=zh oz
  have HZ:=zh hz
  clear bb oz hz
  clear c0 c1 c2 c3 c4 c5 r0 r1 r2 r3 r4 r5 f0 f1 f2 f3 f4 f5
  go_wp2_with fail
  refine(Shorts.sPair _ fa fb fi fq (zu TT).2.2.2.2.1.1 (zu TT).2.2.2.2.1.2).mono ?_
  rintro e w4 ⟨gL,rfl,hgL,aL,bb⟩
  have S4:=zh ((zu S3).step bb)
  have OZ4:=zh ((zu OZ).below bb (Nat.le_refl _))
  have AL:=zh aL
  clear bb aL OZ
  go_wp2_with fail
  refine(sPost w4 w2.heap.size z gL 2 (pairL fa fb fi fq) (zu OZ4) (by rw[zu HZ];exact zu LI) (by rw[zu HZ];exact zu SM) (by simp[pairL]) hgL (zu AL) (pair_formed (zu TT).2.1 (zu TT).2.2.1 (zu TT).2.2.2.1 (zu TT).2.2.2.2.1.1 (zu TT).2.2.2.2.1.2) (pair_even _ _ _ _)).mono ?_
  rintro e w5 ⟨y1,d1,hp,rfl,o1,bb⟩
  rw[zu HZ] at hp
  have HP:=zh hp
  have S5:=zh ((zu S4).step bb)
  have S6:=zh ((zu S5).step (one_more w5 (.cells #[.slice (some ⟨y1.ga,0,none⟩) y1.b.ac.length y1.ca,.slice (some ⟨y1.gi,0,none⟩) y1.b.ic.length y1.ci,.slice (some ⟨y1.gb,0,none⟩) y1.b.bs.length y1.cb,.slice (some ⟨y1.gl,0,none⟩) y1.b.ls.length y1.cl,.slice (some ⟨y1.gt,0,none⟩) y1.b.ts.length y1.ct,.int .i64 y1.b.lot] 44)))
  have O15:=zh o1
  have O1:=zh (ow_alloc o1 (.cells #[.slice (some ⟨y1.ga,0,none⟩) y1.b.ac.length y1.ca,.slice (some ⟨y1.gi,0,none⟩) y1.b.ic.length y1.ci,.slice (some ⟨y1.gb,0,none⟩) y1.b.bs.length y1.cb,.slice (some ⟨y1.gl,0,none⟩) y1.b.ls.length y1.cl,.slice (some ⟨y1.gt,0,none⟩) y1.b.ts.length y1.ct,.int .i64 y1.b.lot] 44))
  have V6:=zh (Box.made (w:=w5) (base:=w.heap.size) (g:=w5.heap.size) (.slice (some ⟨y1.ga,0,none⟩) y1.b.ac.length y1.ca) (.slice (some ⟨y1.gi,0,none⟩) y1.b.ic.length y1.ci) (.slice (some ⟨y1.gb,0,none⟩) y1.b.bs.length y1.cb) (.slice (some ⟨y1.gl,0,none⟩) y1.b.ls.length y1.cl) (.slice (some ⟨y1.gt,0,none⟩) y1.b.ts.length y1.ct) (.int .i64 y1.b.lot) (zu S5).b.size rfl)
  have l5:=(zu S5).v.lt.2
  clear bb hp o1 AL hgL OZ4 HZ
  by_cases z1:d1=0
  ·subst z1
   by_cases k3:K3=2
   ·have k3b:(K3==2)=true:=eq_true k3
    go_wp2_with fail
    generalize w5.alloc (.cells #[.slice (some ⟨y1.ga,0,none⟩) y1.b.ac.length y1.ca,.slice (some ⟨y1.gi,0,none⟩) y1.b.ic.length y1.ci,.slice (some ⟨y1.gb,0,none⟩) y1.b.bs.length y1.cb,.slice (some ⟨y1.gl,0,none⟩) y1.b.ls.length y1.cl,.slice (some ⟨y1.gt,0,none⟩) y1.b.ts.length y1.ct,.int .i64 y1.b.lot] 44)=w6 at *
    refine(SCarry.sCarry w6 w2.heap.size y1 fa fb fi fq fk (zu O1) (by rw[(posted_lot (zu HP)).1];exact(zu LI).2.2.2.2.2) (posted_small (zu HP) (zu SM))).mono ?_
    rintro e w7 ⟨y2,t2,d2,ho,rfl,o2,bb⟩
    have S7:=zh ((zu S6).step bb)
    have V7:=zh ((zu V6).below bb (zu V6).lt.2)
    have O2:=zh o2
    have HO:=zh ho
    have KI:=zh (show kindOf x.b.ic fi≠1 from by have:=zu hK3;omega)
    clear bb o2 ho
    obtain⟨a0,a1,a2,a3,a4,a5,g0,g1,g2,g3,g4,g5⟩:=Box.all (zu V7)
    obtain⟨c0,c1,c2,c3,c4,c5⟩:=(zu S7).c
    obtain⟨r0,r1,r2,r3,r4,r5,f0,f1,f2,f3,f4,f5⟩:=Box.all ((zu S7).v)
    have l6:w.heap.size+1≠w5.heap.size:=by omega
    have l7:w.heap.size≠w5.heap.size:=by omega
    have F1:=zh (off_box (zu O2) (zu S7).v)
    have F2:=zh (off_box (zu O2) (zu V7))
    by_cases z2:d2=0
    ·subst z2
     have IZ:=zh (show IsMove x.b fa fb fi fq fk y2.b t2 0 from by
      obtain⟨b2,k2,c2,ht,⟨hne,_,hc⟩|⟨rfl,ho,rfl⟩⟩:=zu HO
      ·exact absurd hc.symm hne
      ·exact .inr (.inr ⟨zu NZ,zu NK,y1.b,0,zu HP,.inr (.inr ⟨rfl,zu KI,b2,_,0,ht,.inr ⟨rfl,y2.b,0,ho,.inr ⟨rfl,rfl,rfl,rfl⟩⟩⟩)⟩))
     go_wp2
     refine to_wb (fun W=>Box W w.heap.size (w.heap.size+1) (.slice (some ⟨y2.ga,0,none⟩) y2.b.ac.length y2.ca) (.slice (some ⟨y2.gi,0,none⟩) y2.b.ic.length y2.ci) (.slice (some ⟨y2.gb,0,none⟩) y2.b.bs.length y2.cb) (.slice (some ⟨y2.gl,0,none⟩) y2.b.ls.length y2.cl) (.slice (some ⟨y2.gt,0,none⟩) y2.b.ts.length y2.ct) (.int .i64 y2.b.lot)∧Below w.heap.size w W∧Ow W w.heap.size y2) ?_ ?_
     ·exact⟨(box_six ((zu S7).v.kept (box_six (zu V7) _ _ _ _ _ _).2 (fun e=>by injection e;omega)) _ _ _ _ _ _).1,six (six (zu S7).b (by omega) _ _ _ _ _ _) (by omega) _ _ _ _ _ _,(ow_six (ow_six (zu O2) (zu F2) _ _ _ _ _ _) (zu F1) _ _ _ _ _ _).rebase (zu S2).b.size⟩
     rintro W ⟨X,B,OW⟩
     have p0:=X.c0
     have p1:=X.c1
     have p2:=X.c2
     have p3:=X.c3
     have p4:=X.c4
     have p5:=X.c5
     exact bodyPost_ret (v:= .tuple #[.agg #[.slice (some ⟨y2.ga,0,none⟩) y2.b.ac.length y2.ca,.slice (some ⟨y2.gi,0,none⟩) y2.b.ic.length y2.ci,.slice (some ⟨y2.gb,0,none⟩) y2.b.bs.length y2.cb,.slice (some ⟨y2.gl,0,none⟩) y2.b.ls.length y2.cl,.slice (some ⟨y2.gt,0,none⟩) y2.b.ts.length y2.ct,.int .i64 y2.b.lot],.int .i64 t2,.int .i64 0]) (by simp[results,Tryz.results50,go_sem,p0,p1,p2,p3,p4,p5]) rfl (.inr ⟨zu TT,y2,t2,0,zu IZ,rfl,OW,B⟩)
    ·have z2c:(d2 !=0)=true:=ne_true z2
     have IZ2:=zh (show IsMove x.b fa fb fi fq fk x.b 0 d2 from by
      obtain⟨b2,k2,c2,ht,⟨hne,_,rfl⟩|⟨rfl,ho,rfl⟩⟩:=zu HO
      ·exact .inr (.inr ⟨zu NZ,zu NK,y1.b,0,zu HP,.inr (.inr ⟨rfl,zu KI,b2,k2,_,ht,.inl ⟨hne,rfl,rfl,rfl⟩⟩)⟩)
      ·exact .inr (.inr ⟨zu NZ,zu NK,y1.b,0,zu HP,.inr (.inr ⟨rfl,zu KI,b2,_,0,ht,.inr ⟨rfl,y2.b,d2,ho,.inl ⟨z2,rfl,rfl,rfl⟩⟩⟩)⟩))
     clear z2
     have T8:=zh (SIssue.SR.grown (zu HR) (zu S7) (box_six (zu V7) (.slice (some ⟨y2.ga,0,none⟩) y2.b.ac.length y2.ca) (.slice (some ⟨y2.gi,0,none⟩) y2.b.ic.length y2.ci) (.slice (some ⟨y2.gb,0,none⟩) y2.b.bs.length y2.cb) (.slice (some ⟨y2.gl,0,none⟩) y2.b.ls.length y2.cl) (.slice (some ⟨y2.gt,0,none⟩) y2.b.ts.length y2.ct) (.int .i64 y2.b.lot)).2 (by omega))
     go_wp2_with fail
     refine(SCopy.sCopy _ x (zu T8).r).mono ?_
     rintro e w8 ⟨z,hz,rfl,oz,bb⟩
     have S8:=zh ((zu T8).step bb)
     have OZ:=zh (oz.rebase (zu T8).b.size)
     have LZ:=zh (ow_lo oz)
     have zl:=(zu T8).v.lt.2
     have IZ:=zh (show IsMove x.b fa fb fi fq fk z.b 0 d2 from by rw[hz];exact(zu IZ2))
     clear bb oz hz
     clear c0 c1 c2 c3 c4 c5 r0 r1 r2 r3 r4 r5 f0 f1 f2 f3 f4 f5
     obtain⟨c0,c1,c2,c3,c4,c5⟩:=(zu S8).c
     obtain⟨r0,r1,r2,r3,r4,r5,f0,f1,f2,f3,f4,f5⟩:=Box.all ((zu S8).v)
     go_wp2
     refine bodyPost_ret (v:= .tuple #[.agg #[.slice (some ⟨z.ga,0,none⟩) z.b.ac.length z.ca,.slice (some ⟨z.gi,0,none⟩) z.b.ic.length z.ci,.slice (some ⟨z.gb,0,none⟩) z.b.bs.length z.cb,.slice (some ⟨z.gl,0,none⟩) z.b.ls.length z.cl,.slice (some ⟨z.gt,0,none⟩) z.b.ts.length z.ct,.int .i64 z.b.lot],.int .i64 0,.int .i64 d2]) (by simp[results,Tryz.results50,go_sem,r0,r1,r2,r3,r4,r5]) rfl (.inr ⟨zu TT,z,0,d2,zu IZ,rfl,?_,?_⟩)
     ·exact ow_six (zu OZ) (off_lo (zu LZ) zl) _ _ _ _ _ _
     ·exact six (zu S8).b (by omega) _ _ _ _ _ _
   ·have k3b:(K3==2)=false:=eq_false k3
    have KI:=zh (show kindOf x.b.ic fi=1 from by have:=zu hK3;have:=zu K3IN;omega)
    have IZ:=zh (show IsMove x.b fa fb fi fq fk y1.b 0 0 from .inr (.inr ⟨zu NZ,zu NK,y1.b,0,zu HP,.inr (.inl ⟨rfl,zu KI,rfl,rfl,rfl⟩)⟩))
    have l6:w.heap.size+1≠w5.heap.size:=by omega
    have F1:=zh (off_box (zu O15) (zu S5).v)
    obtain⟨c0,c1,c2,c3,c4,c5⟩:=(zu S5).c
    obtain⟨r0,r1,r2,r3,r4,r5,f0,f1,f2,f3,f4,f5⟩:=Box.all ((zu S5).v)
    go_wp2
    refine to_wb (fun W=>Box W w.heap.size (w.heap.size+1) (.slice (some ⟨y1.ga,0,none⟩) y1.b.ac.length y1.ca) (.slice (some ⟨y1.gi,0,none⟩) y1.b.ic.length y1.ci) (.slice (some ⟨y1.gb,0,none⟩) y1.b.bs.length y1.cb) (.slice (some ⟨y1.gl,0,none⟩) y1.b.ls.length y1.cl) (.slice (some ⟨y1.gt,0,none⟩) y1.b.ts.length y1.ct) (.int .i64 y1.b.lot)∧Below w.heap.size w W∧Ow W w.heap.size y1) ?_ ?_
    ·exact⟨box_six_alloc (zu S5).v _ _ _ _ _ _ _,six_alloc (zu S5).b (zu S5).b.size (by omega) _ _ _ _ _ _ _,ow_six_alloc (zu O15) (zu F1) (zu S2).b.size _ _ _ _ _ _ _⟩
    rintro W ⟨X,B,OW⟩
    have p0:=X.c0
    have p1:=X.c1
    have p2:=X.c2
    have p3:=X.c3
    have p4:=X.c4
    have p5:=X.c5
    exact bodyPost_ret (v:= .tuple #[.agg #[.slice (some ⟨y1.ga,0,none⟩) y1.b.ac.length y1.ca,.slice (some ⟨y1.gi,0,none⟩) y1.b.ic.length y1.ci,.slice (some ⟨y1.gb,0,none⟩) y1.b.bs.length y1.cb,.slice (some ⟨y1.gl,0,none⟩) y1.b.ls.length y1.cl,.slice (some ⟨y1.gt,0,none⟩) y1.b.ts.length y1.ct,.int .i64 y1.b.lot],.int .i64 0,.int .i64 0]) (by simp[results,Tryz.results50,go_sem,p0,p1,p2,p3,p4,p5]) rfl (.inr ⟨zu TT,y1,0,0,zu IZ,rfl,OW,B⟩)
  ·have z1b:(d1==0)=false:=eq_false z1
   have z1c:(d1 !=0)=true:=ne_true z1
   have IZ1:=zh (show IsMove x.b fa fb fi fq fk x.b 0 d1 from .inr (.inr ⟨zu NZ,zu NK,y1.b,d1,zu HP,.inl ⟨z1,rfl,rfl,rfl⟩⟩))
   clear z1
   obtain⟨c0,c1,c2,c3,c4,c5⟩:=(zu S6).c
   obtain⟨r0,r1,r2,r3,r4,r5,f0,f1,f2,f3,f4,f5⟩:=Box.all ((zu S6).v)
   go_wp2_with fail
   refine(SCopy.sCopy _ x (zu S6).r).mono ?_
   rintro e w8 ⟨z,hz,rfl,oz,bb⟩
   have S8:=zh ((zu S6).step bb)
   have OZ:=zh (oz.rebase (zu S6).b.size)
   have LZ:=zh (ow_lo oz)
   have zl:=(zu S6).v.lt.2
   have IZ:=zh (show IsMove x.b fa fb fi fq fk z.b 0 d1 from by rw[hz];exact(zu IZ1))
   clear bb oz hz
   clear c0 c1 c2 c3 c4 c5 r0 r1 r2 r3 r4 r5 f0 f1 f2 f3 f4 f5
   obtain⟨c0,c1,c2,c3,c4,c5⟩:=(zu S8).c
   obtain⟨r0,r1,r2,r3,r4,r5,f0,f1,f2,f3,f4,f5⟩:=Box.all ((zu S8).v)
   go_wp2
   refine bodyPost_ret (v:= .tuple #[.agg #[.slice (some ⟨z.ga,0,none⟩) z.b.ac.length z.ca,.slice (some ⟨z.gi,0,none⟩) z.b.ic.length z.ci,.slice (some ⟨z.gb,0,none⟩) z.b.bs.length z.cb,.slice (some ⟨z.gl,0,none⟩) z.b.ls.length z.cl,.slice (some ⟨z.gt,0,none⟩) z.b.ts.length z.ct,.int .i64 z.b.lot],.int .i64 0,.int .i64 d1]) (by simp[results,Tryz.results50,go_sem,r0,r1,r2,r3,r4,r5]) rfl (.inr ⟨zu TT,z,0,d1,zu IZ,rfl,?_,?_⟩)
   ·exact ow_six (zu OZ) (off_lo (zu LZ) zl) _ _ _ _ _ _
   ·exact six (zu S8).b (by omega) _ _ _ _ _ _
end SMove
namespace SCarryP
open BMem Bks ILists BHelp Ans SBk
open SCarry (taken_cases taken_len)
open SIssue (six_alloc ow_six_alloc box_six_alloc to_wb off_box ne_true)
open IBalsFit (one_more)
open Lots (Says says_of NoOk)
open Bals (T3)
open Tup5 (T5)
open Tup8 (T8 el8)
open Trd (legsT)
def CarriedP(b:Bk)(x y i q way pr:Int)(b':Bk)(t c:Int):Prop:=
 ∃b2 k2 c2,IsTake b x i q way b2 k2 c2∧((c2≠0∧t=0∧c=c2)∨(c2=0∧IsOpen b2 y i q pr b' c∧t=k2))
theorem pair_formed0{a c i q:Int}(ha:NoOk a)(hc:NoOk c)(hi:NoOk i)(q1:0≤q)(q2:q≤1000000000000000):∀p∈pairL a c i q,NoOk p.1∧NoOk p.2.1∧Bals.Amt p.2.2:=by
 intro p hp
 simp only[pairL,List.mem_cons,List.not_mem_nil,or_false] at hp
 rcases hp with rfl|rfl
 ·exact⟨ha,hi,by unfold Bals.Amt;simp;omega⟩
 ·exact⟨hc,hi,by unfold Bals.Amt;simp;omega⟩
theorem legs_formed{t:T8}(h:TOne t):Bals.Formed (legsT t):=by
 obtain⟨h1,h2,h3,h4,h5,h6,h7,h8,h9⟩:=h
 have a:=pair_formed0 h2 h3 h5 h8.1 h8.2
 have b:=pair_formed0 h3 h2 h4 (by omega) h7.2
 refine⟨by simp[legsT,pairL],fun k hk=>?_⟩
 have m:Bals.el3 (legsT t) k∈legsT t:=Bals.getD_mem hk
 rcases List.mem_append.1 m with m|m
 ·exact a _ m
 ·exact b _ m
theorem legs_even(t:T8):Bals.Even (legsT t):=by
 intro j
 unfold legsT
 rw[Bals.sumI_append,pair_even _ _ _ _ j,pair_even _ _ _ _ j]
 rfl
theorem sCarryP(w:World)(base:Nat)(x:Bx)(fa fb fi fq fk pr:Int)(hpr:0≤pr)(O:Ow w base x)(hlot:0≤x.b.lot∧x.b.lot≤1000000000)(s:Small x.b):
  Calls Tryz.prog 80 #[.agg #[.slice (some ⟨x.ga,0,none⟩) x.b.ac.length x.ca,.slice (some ⟨x.gi,0,none⟩) x.b.ic.length x.ci,.slice (some ⟨x.gb,0,none⟩) x.b.bs.length x.cb,.slice (some ⟨x.gl,0,none⟩) x.b.ls.length x.cl,.slice (some ⟨x.gt,0,none⟩) x.b.ts.length x.ct,.int .i64 x.b.lot],.int .i64 fa,.int .i64 fb,.int .i64 fi,.int .i64 fq,.int .i64 fk,.int .i64 pr] w fun e w'=>∃(y:Bx) (t c:Int),CarriedP x.b fa fb fi fq fk pr y.b t c∧e= .returned (.tuple #[.agg #[.slice (some ⟨y.ga,0,none⟩) y.b.ac.length y.ca,.slice (some ⟨y.gi,0,none⟩) y.b.ic.length y.ci,.slice (some ⟨y.gb,0,none⟩) y.b.bs.length y.cb,.slice (some ⟨y.gl,0,none⟩) y.b.ls.length y.cl,.slice (some ⟨y.gt,0,none⟩) y.b.ts.length y.ct,.int .i64 y.b.lot],.int .i64 t,.int .i64 c])∧Ow w' base y∧Below w.heap.size w w':=by
 obtain⟨bad,hbad⟩:=says_of (¬STake.TakeOk x.b.ls fq fk)
 obtain⟨short,hshort⟩:=says_of (Takes.sumQ (Lots.ownL x.b.ls fa fi)<fq)
 have hpn:decide (pr<0)=false:=decide_eq_false (by omega)
 have HB:=zh hbad
 have HS:=zh hshort
 have R0:=zh (O.rd s)
 have O0:=zh O
 have U0:=zh (ow_up O)
 have S1:=zh (SV.start w x)
 have SM:=zh s
 have HL:=zh hlot
 have nl:=s.2.2.2.1
 clear O s hbad hshort hlot
 go_enter Tryz.func80,Tryz.ntmps80
 go_wp2_with fail
 generalize ((w.alloc (.cells #[.slice (some ⟨x.ga,0,none⟩) x.b.ac.length x.ca,.slice (some ⟨x.gi,0,none⟩) x.b.ic.length x.ci,.slice (some ⟨x.gb,0,none⟩) x.b.bs.length x.cb,.slice (some ⟨x.gl,0,none⟩) x.b.ls.length x.cl,.slice (some ⟨x.gt,0,none⟩) x.b.ts.length x.ct,.int .i64 x.b.lot] 44)).alloc (.cells #[.slice none 0 0,.slice none 0 0,.slice none 0 0,.slice none 0 0,.slice none 0 0,.int .i64 0] 44))=w1 at *
 refine(STake.sTake w1 x.gl _ x.cl x.b.ls (takenL x.b fa fi fq fk) fa fi fq fk bad short rfl nl ((zu R0).below (zu S1).b).ll ((zu R0).below (zu S1).b).rl (zu HB) (zu HS) (fun _ _=>rfl)).mono ?_
 rintro e w2 ⟨g2,k2,rfl,o2,bb⟩
 have S2:=zh ((zu S1).step bb)
 have OX:=zh ((zu O0).below (zu S2).b (Nat.le_refl _))
 have BW:=zh (zu S2).b
 have O2:=zh o2
 have g2l:=o2.lt.1
 have z1:=(zu S1).v.lt.2
 have zb:=(zu O0).oa.lt
 have z2:=(zu S2).v.lt.2
 clear o2 bb
 have c0:=(zu S2).x.c0
 have c1:=(zu S2).x.c1
 have c2:=(zu S2).x.c2
 have c3:=(zu S2).x.c3
 have c4:=(zu S2).x.c4
 have c5:=(zu S2).x.c5
 have x3:=(zu S2).x.free 3
 rcases taken_cases bad short with⟨rfl,rfl⟩|⟨hne,hno⟩
 ·have CT:=zh (show CanTake x.b fa fi fq fk from by
   have hb:=Classical.byContradiction (zu HB).no
   exact⟨hb.1,hb.2.1,hb.2.2,(zu HS).no⟩)
  obtain⟨R,hR⟩:∃R,Hid (takenL x.b fa fi fq fk=R):=⟨_,rfl⟩
  obtain⟨ck,hck⟩:∃ck,Hid (Takes.takeC fk (Lots.ownL x.b.ls fa fi) fq=ck):=⟨_,rfl⟩
  have O2:=zh (show Tup5.Own5 188 w2 w1.heap.size g2 R.length k2 R from by rw[←zu hR];exact zu O2)
  have OY:=zh (ow_withL (lot:=x.b.lot) (zu OX) ((zu O2).rebase (base':=base) (by omega)))
  have F1:=zh (off_withL (c:=k2) (qs:=R) (lot:=x.b.lot) (zu U0) (Nat.le_refl w.heap.size) (show w.heap.size<g2 by omega))
  have TK:=zh (show IsTake x.b fa fi fq fk (withL x g2 k2 R x.b.lot).b ck 0 from .inl ⟨zu CT,by rw[←zu hR],(zu hck).symm,rfl⟩)
  have SY:=zh (show Small (withL x g2 k2 R x.b.lot).b from by
   have:=taken_len (zu CT) (zu SM)
   rw[zu hR] at this
   obtain⟨a,b,c,d,e⟩:=zu SM
   exact⟨a,b,c,this,e⟩)
  rw[show(STake.takeA x.b.ls (takenL x.b fa fi fq fk) false false).length=R.length from by rw[←zu hR];rfl,show STake.takeK (Takes.takeC fk (Lots.ownL x.b.ls fa fi) fq) false false=ck from by rw[←zu hck];rfl,show STake.takeD false false=0 from rfl]
  go_wp2_with fail
  refine(sOpenB _ base (withL x g2 k2 R x.b.lot) fb fi fq pr (ow_set (zu OY) (zu F1) 3 _) (zu HL) (zu SY)).mono ?_
  rintro e w3 ⟨y,c,ho,rfl,o3,bb⟩
  have V3:=zh (Box.below (row_set (zu S2).v (show w.heap.size+1≠w.heap.size by omega) 3 (.slice (some ⟨g2,0,none⟩) R.length k2)) bb (by simpa using z2))
  have B3:=zh (((zu BW).setCell (p:=⟨w.heap.size,3,none⟩) (Nat.le_refl _) _).trans (bb.mono (by simpa using(zu BW).size)))
  have O3:=zh o3
  have HO:=zh ho
  have F3:=zh (off_box o3 (zu V3))
  have l3:=(zu V3).lt.2
  have l4:w.heap.size+1≠w3.heap.size:=by omega
  clear bb o3 ho c0 c1 c2 c3 c4 c5 x3
  obtain⟨r0,r1,r2,r3,r4,r5,f0,f1,f2,f3,f4,f5⟩:=Box.all (zu V3)
  go_wp2
  refine to_wb (fun W=>Box W w.heap.size (w.heap.size+1) (.slice (some ⟨y.ga,0,none⟩) y.b.ac.length y.ca) (.slice (some ⟨y.gi,0,none⟩) y.b.ic.length y.ci) (.slice (some ⟨y.gb,0,none⟩) y.b.bs.length y.cb) (.slice (some ⟨y.gl,0,none⟩) y.b.ls.length y.cl) (.slice (some ⟨y.gt,0,none⟩) y.b.ts.length y.ct) (.int .i64 y.b.lot)∧Below w.heap.size w W∧Ow W base y) ?_ ?_
  ·exact⟨box_six_alloc (zu V3) _ _ _ _ _ _ _,six_alloc (zu B3) (zu B3).size (by omega) _ _ _ _ _ _ _,ow_six_alloc (zu O3) (zu F3) (Nat.le_refl _) _ _ _ _ _ _ _⟩
  rintro W ⟨X,B,OW⟩
  have p0:=X.c0
  have p1:=X.c1
  have p2:=X.c2
  have p3:=X.c3
  have p4:=X.c4
  have p5:=X.c5
  exact bodyPost_ret (v:= .tuple #[.agg #[.slice (some ⟨y.ga,0,none⟩) y.b.ac.length y.ca,.slice (some ⟨y.gi,0,none⟩) y.b.ic.length y.ci,.slice (some ⟨y.gb,0,none⟩) y.b.bs.length y.cb,.slice (some ⟨y.gl,0,none⟩) y.b.ls.length y.cl,.slice (some ⟨y.gt,0,none⟩) y.b.ts.length y.ct,.int .i64 y.b.lot],.int .i64 ck,.int .i64 c]) (by simp[results,Tryz.results80,go_sem,p0,p1,p2,p3,p4,p5]) rfl ⟨y,ck,c,⟨_,ck,0,zu TK,.inr ⟨rfl,zu HO,rfl⟩⟩,rfl,OW,B⟩
 ·have CT:=zh (show ¬CanTake x.b fa fi fq fk from fun h=>hno ⟨(zu HB).not (fun r=>r ⟨h.1,h.2.1,h.2.2.1⟩),(zu HS).not h.2.2.2⟩)
  obtain⟨c,hc⟩:∃c,Hid (STake.takeD bad short=c):=⟨_,rfl⟩
  have cb:(c !=0)=true:=by rw[←zu hc];simpa using hne
  rw[zu hc]
  clear hne hno
  obtain⟨r0,r1,r2,r3,r4,r5,f0,f1,f2,f3,f4,f5⟩:=Box.all ((zu S2).v)
  go_wp2
  refine bodyPost_ret (v:= .tuple #[.agg #[.slice (some ⟨x.ga,0,none⟩) x.b.ac.length x.ca,.slice (some ⟨x.gi,0,none⟩) x.b.ic.length x.ci,.slice (some ⟨x.gb,0,none⟩) x.b.bs.length x.cb,.slice (some ⟨x.gl,0,none⟩) x.b.ls.length x.cl,.slice (some ⟨x.gt,0,none⟩) x.b.ts.length x.ct,.int .i64 x.b.lot],.int .i64 0,.int .i64 5]) (by simp[results,Tryz.results80,go_sem,r0,r1,r2,r3,r4,r5]) rfl ⟨x,0,5,⟨x.b,0,5,.inr ⟨zu CT,rfl,rfl,rfl⟩,.inl ⟨by omega,rfl,rfl⟩⟩,rfl,?_,?_⟩
  ·exact ow_six (zu OX) (off_up (zu U0) (by omega)) _ _ _ _ _ _
  ·exact Ans.six (zu BW) (by omega) _ _ _ _ _ _
end SCarryP
namespace SSettle
open BMem Bks ILists BHelp Ans SBk Trd TBox
open IBalsFit (one_more)
open Lots (Says says_of NoOk)
open Tup8 (T8 el8 Own8)
open SIssue (posted_small posted_lot to_wb off_box eq_false eq_true ne_false ne_true)
open SMove (AnsM)
open SCarryP (CarriedP legs_formed legs_even)
def ToldS(b:Bk)(no fk:Int):Prop:=Ok b∧NoOk no∧(1≤fk∧fk≤3)
theorem hold14{w W W':World}{x:Bx}{p0 p1 p2 p3 p4 p5 p6 p7:Int}{g:Nat}(A:SR w W x)(X:Box8 W w.heap.size g (p0,p1,p2,p3,p4,p5,p6,p7))(k:Below W.heap.size W W'):W'.cell? ⟨w.heap.size,0,none⟩=some (.slice (some ⟨x.ga,0,none⟩) x.b.ac.length x.ca)∧W'.cell? ⟨w.heap.size,1,none⟩=some (.slice (some ⟨x.gi,0,none⟩) x.b.ic.length x.ci)∧W'.cell? ⟨w.heap.size,2,none⟩=some (.slice (some ⟨x.gb,0,none⟩) x.b.bs.length x.cb)∧W'.cell? ⟨w.heap.size,3,none⟩=some (.slice (some ⟨x.gl,0,none⟩) x.b.ls.length x.cl)∧W'.cell? ⟨w.heap.size,4,none⟩=some (.slice (some ⟨x.gt,0,none⟩) x.b.ts.length x.ct)∧W'.cell? ⟨w.heap.size,5,none⟩=some (.int .i64 x.b.lot)∧W'.cell? ⟨g,0,none⟩=some (.int .i64 p0)∧W'.cell? ⟨g,1,none⟩=some (.int .i64 p1)∧W'.cell? ⟨g,2,none⟩=some (.int .i64 p2)∧W'.cell? ⟨g,3,none⟩=some (.int .i64 p3)∧W'.cell? ⟨g,4,none⟩=some (.int .i64 p4)∧W'.cell? ⟨g,5,none⟩=some (.int .i64 p5)∧W'.cell? ⟨g,6,none⟩=some (.int .i64 p6)∧W'.cell? ⟨g,7,none⟩=some (.int .i64 p7):=by
 have A':=A.step k
 have X':=X.below k X.lt.2
 exact⟨A'.c.c0,A'.c.c1,A'.c.c2,A'.c.c3,A'.c.c4,A'.c.c5,X'.c0,X'.c1,X'.c2,X'.c3,X'.c4,X'.c5,X'.c6,X'.c7⟩
theorem posted_ts{b b':Bk}{ls:List Bals.T3}{c:Int}(h:IsPosted b ls b' c):b'.ts=b.ts:=by
 obtain⟨qs,pc,hp,⟨_,rfl,_⟩|⟨_,rfl,_⟩|⟨_,rfl,_⟩|⟨_,rfl,_⟩⟩:=h
 all_goals rfl
theorem carried_ts{b b':Bk}{x y i q way pr t:Int}(h:CarriedP b x y i q way pr b' t 0):b'.ts=b.ts:=by
 obtain⟨b2,k2,c2,ht,⟨hne,_,hc⟩|⟨rfl,ho,rfl⟩⟩:=h
 ·exact absurd hc.symm hne
 ·have e1:b2.ts=b.ts:=by
   rcases ht with⟨_,rfl,_,_⟩|⟨_,rfl,_,_⟩<;>rfl
  rcases ho with⟨_,rfl,_⟩|⟨_,rfl,_⟩
  ·exact e1
  ·exact e1
theorem to_wc{K:Act→World→Prop}{a:Act}{W:World}(Pr:World→Prop)(h:Pr W)(k:∀W,Pr W→K a W):K a W:=k W h
theorem sPost4(w:World)(base:Nat)(x:Bx)(gL capL:Nat)(t:T8)(O:Ow w base x)(LI:Lists x.b)(s:Small x.b)(o:Triples.Own3 181 w base gL 4 capL (legsT t))(ht:TOne t):
  Calls Tryz.prog 77 #[.agg #[.slice (some ⟨x.ga,0,none⟩) x.b.ac.length x.ca,.slice (some ⟨x.gi,0,none⟩) x.b.ic.length x.ci,.slice (some ⟨x.gb,0,none⟩) x.b.bs.length x.cb,.slice (some ⟨x.gl,0,none⟩) x.b.ls.length x.cl,.slice (some ⟨x.gt,0,none⟩) x.b.ts.length x.ct,.int .i64 x.b.lot],.slice (some ⟨gL,0,none⟩) 4 capL] w fun e w'=>∃(y:Bx) (c:Int),IsPosted x.b (legsT t) y.b c∧e= .returned (.tuple #[.agg #[.slice (some ⟨y.ga,0,none⟩) y.b.ac.length y.ca,.slice (some ⟨y.gi,0,none⟩) y.b.ic.length y.ci,.slice (some ⟨y.gb,0,none⟩) y.b.bs.length y.cb,.slice (some ⟨y.gl,0,none⟩) y.b.ls.length y.cl,.slice (some ⟨y.gt,0,none⟩) y.b.ts.length y.ct,.int .i64 y.b.lot],.int .i64 c])∧Ow w' base y∧Below w.heap.size w w':=
 sPost w base x gL capL (legsT t) O LI s (show 4≤1048576 by omega) o.lt.2 o.at (legs_formed ht) (legs_even t)
theorem sSettle(w:World)(x:Bx)(no fk:Int)(hr:Rd w x):
  Calls Tryz.prog 53 #[.agg #[.slice (some ⟨x.ga,0,none⟩) x.b.ac.length x.ca,.slice (some ⟨x.gi,0,none⟩) x.b.ic.length x.ci,.slice (some ⟨x.gb,0,none⟩) x.b.bs.length x.cb,.slice (some ⟨x.gl,0,none⟩) x.b.ls.length x.cl,.slice (some ⟨x.gt,0,none⟩) x.b.ts.length x.ct,.int .i64 x.b.lot],.int .i64 no,.int .i64 fk] w (AnsM (ToldS x.b no fk) (IsSettle x.b no fk) w):=by
 obtain⟨b0,h0⟩:=says_of (Ok x.b)
 obtain⟨b1,h1⟩:=says_of (NoOk no)
 obtain⟨b2,h2⟩:=says_of (1≤fk∧fk≤3)
 have H0:=zh h0
 have H1:=zh h1
 have H2:=zh h2
 have S0:=zh (SR.start hr)
 have HR:=zh hr
 clear h0 h1 h2 hr
 go_enter Tryz.func53,Tryz.ntmps53
 go_wp2_with fail
 refine(SBooksOk.sBooksOk _ x b0 (zu S0).r (zu H0)).mono ?_
 rintro e w1 ⟨rfl,bb⟩
 have S1:=zh ((zu S0).step bb)
 have B1:=zh (zu S1).b
 clear bb
 obtain⟨c0,c1,c2,c3,c4,c5⟩:=(zu S1).c
 obtain⟨r0,r1,r2,r3,r4,r5,f0,f1,f2,f3,f4,f5⟩:=Box.all ((zu S1).v)
 cases b0
 ·have N:=zh (show ¬ToldS x.b no fk from fun hh=>(zu H0).no hh.1)
  go_wp2
  refine bodyPost_ret (v:= .tuple #[.agg #[.slice none 0 0,.slice none 0 0,.slice none 0 0,.slice none 0 0,.slice none 0 0,.int .i64 0],.int .i64 0,.int .i64 1]) (by simp[results,Tryz.results53,go_sem,r0,r1,r2,r3,r4,r5]) rfl (.inl ⟨zu N,rfl,?_⟩)
  exact six (zu B1) (by omega) _ _ _ _ _ _
 go_wp2_with fail
 refine(SOk5.sNo no b1 _ (zu H1)).mono ?_
 rintro e v1 ⟨rfl,rfl⟩
 cases b1
 ·have N:=zh (show ¬ToldS x.b no fk from fun hh=>(zu H1).no hh.2.1)
  go_wp2
  refine bodyPost_ret (v:= .tuple #[.agg #[.slice none 0 0,.slice none 0 0,.slice none 0 0,.slice none 0 0,.slice none 0 0,.int .i64 0],.int .i64 0,.int .i64 1]) (by simp[results,Tryz.results53,go_sem,r0,r1,r2,r3,r4,r5]) rfl (.inl ⟨zu N,rfl,?_⟩)
  exact six (zu B1) (by omega) _ _ _ _ _ _
 go_wp2_with fail
 refine(SOk5.sIn fk 1 3 b2 _ (zu H2)).mono ?_
 rintro e v2 ⟨rfl,rfl⟩
 cases b2
 ·have N:=zh (show ¬ToldS x.b no fk from fun hh=>(zu H2).no hh.2.2)
  go_wp2
  refine bodyPost_ret (v:= .tuple #[.agg #[.slice none 0 0,.slice none 0 0,.slice none 0 0,.slice none 0 0,.slice none 0 0,.int .i64 0],.int .i64 0,.int .i64 1]) (by simp[results,Tryz.results53,go_sem,r0,r1,r2,r3,r4,r5]) rfl (.inl ⟨zu N,rfl,?_⟩)
  exact six (zu B1) (by omega) _ _ _ _ _ _
 have TT:=zh (show ToldS x.b no fk from⟨(zu H0).yes,(zu H1).yes,(zu H2).yes⟩)
 have LI:=zh (zu H0).yes.1
 have SM:=zh (ok_small (zu H0).yes)
 have nt:x.b.ts.length≤1048576:=(zu HR).nt
 clear H0 H1 H2 S0
 go_wp2_with fail
 refine(STrd.sOpenAt _ x no (zu S1).r).mono ?_
 rintro e w2 ⟨r,c,ho,rfl,bb⟩
 have S2:=zh ((zu S1).step bb)
 clear bb
 clear c0 c1 c2 c3 c4 c5 r0 r1 r2 r3 r4 r5 f0 f1 f2 f3 f4 f5
 obtain⟨c0,c1,c2,c3,c4,c5⟩:=(zu S2).c
 obtain⟨r0,r1,r2,r3,r4,r5,f0,f1,f2,f3,f4,f5⟩:=Box.all ((zu S2).v)
 rcases ho with⟨hn,rfl,rfl⟩|⟨k,hk,rfl,⟨hst,rfl⟩|⟨hst,rfl⟩⟩
 ·have I3:=zh (show IsSettle x.b no fk x.b 0 3 from .inl ⟨hn,rfl,rfl,rfl⟩)
  clear hn
  go_wp2_with fail
  refine(SCopy.sCopy _ x (zu S2).r).mono ?_
  rintro e w8 ⟨z,hz,rfl,oz,bb⟩
  have S8:=zh ((zu S2).step bb)
  have OZ:=zh (oz.rebase (zu S2).b.size)
  have LZ:=zh (ow_lo oz)
  have zl:=(zu S2).v.lt.2
  have IZ:=zh (show IsSettle x.b no fk z.b 0 3 from by rw[hz];exact(zu I3))
  clear bb oz hz
  clear c0 c1 c2 c3 c4 c5 r0 r1 r2 r3 r4 r5 f0 f1 f2 f3 f4 f5
  obtain⟨c0,c1,c2,c3,c4,c5⟩:=(zu S8).c
  obtain⟨r0,r1,r2,r3,r4,r5,f0,f1,f2,f3,f4,f5⟩:=Box.all ((zu S8).v)
  go_wp2
  refine bodyPost_ret (v:= .tuple #[.agg #[.slice (some ⟨z.ga,0,none⟩) z.b.ac.length z.ca,.slice (some ⟨z.gi,0,none⟩) z.b.ic.length z.ci,.slice (some ⟨z.gb,0,none⟩) z.b.bs.length z.cb,.slice (some ⟨z.gl,0,none⟩) z.b.ls.length z.cl,.slice (some ⟨z.gt,0,none⟩) z.b.ts.length z.ct,.int .i64 z.b.lot],.int .i64 0,.int .i64 3]) (by simp[results,Tryz.results53,go_sem,r0,r1,r2,r3,r4,r5]) rfl (.inr ⟨zu TT,z,0,3,zu IZ,rfl,?_,?_⟩)
  ·exact ow_six (zu OZ) (off_lo (zu LZ) zl) _ _ _ _ _ _
  ·exact six (zu S8).b (by omega) _ _ _ _ _ _
 ·have I3:=zh (show IsSettle x.b no fk x.b 0 6 from .inr ⟨k,hk,.inl ⟨hst,rfl,rfl,rfl⟩⟩)
  clear hk hst
  go_wp2_with fail
  refine(SCopy.sCopy _ x (zu S2).r).mono ?_
  rintro e w8 ⟨z,hz,rfl,oz,bb⟩
  have S8:=zh ((zu S2).step bb)
  have OZ:=zh (oz.rebase (zu S2).b.size)
  have LZ:=zh (ow_lo oz)
  have zl:=(zu S2).v.lt.2
  have IZ:=zh (show IsSettle x.b no fk z.b 0 6 from by rw[hz];exact(zu I3))
  clear bb oz hz
  clear c0 c1 c2 c3 c4 c5 r0 r1 r2 r3 r4 r5 f0 f1 f2 f3 f4 f5
  obtain⟨c0,c1,c2,c3,c4,c5⟩:=(zu S8).c
  obtain⟨r0,r1,r2,r3,r4,r5,f0,f1,f2,f3,f4,f5⟩:=Box.all ((zu S8).v)
  go_wp2
  refine bodyPost_ret (v:= .tuple #[.agg #[.slice (some ⟨z.ga,0,none⟩) z.b.ac.length z.ca,.slice (some ⟨z.gi,0,none⟩) z.b.ic.length z.ci,.slice (some ⟨z.gb,0,none⟩) z.b.bs.length z.cb,.slice (some ⟨z.gl,0,none⟩) z.b.ls.length z.cl,.slice (some ⟨z.gt,0,none⟩) z.b.ts.length z.ct,.int .i64 z.b.lot],.int .i64 0,.int .i64 6]) (by simp[results,Tryz.results53,go_sem,r0,r1,r2,r3,r4,r5]) rfl (.inr ⟨zu TT,z,0,6,zu IZ,rfl,?_,?_⟩)
  ·exact ow_six (zu OZ) (off_lo (zu LZ) zl) _ _ _ _ _ _
  ·exact six (zu S8).b (by omega) _ _ _ _ _ _
 have t:=hk.1
 have KK:=zh hk
 have HST:=zh hst
 have TO:=zh ((zu LI).2.2.2.2.1.2 k t).1
 obtain⟨d0,d1,d2,d3,d4,d5,d6,d7⟩:=(zu S2).r.rt k t
 obtain⟨p,hp⟩:∃p,Hid (el8 x.b.ts k=p):=⟨_,rfl⟩
 have HPP:=hp
 rw[zu hp] at TO HST d0 d1 d2 d3 d4 d5 d6 d7
 obtain⟨p0,p1,p2,p3,p4,p5,p6,p7⟩:=p
 have T3:=zh (Box8.made (w:=w2) (base:=w.heap.size) (g:=w2.heap.size) (p0,p1,p2,p3,p4,p5,p6,p7) (zu S2).b.size rfl)
 have S3:=zh ((zu S2).step (one_more w2 (.cells #[.int .i64 p0,.int .i64 p1,.int .i64 p2,.int .i64 p3,.int .i64 p4,.int .i64 p5,.int .i64 p6,.int .i64 p7] 82)))
 clear hk hst hp
 go_wp2_with fail
 generalize w2.alloc (.cells #[.int .i64 p0,.int .i64 p1,.int .i64 p2,.int .i64 p3,.int .i64 p4,.int .i64 p5,.int .i64 p6,.int .i64 p7] 82)=w3 at *
 have q1:0≤p4:=by have:=(zu TO).2.2.2.2.2.2.1.1;simp at this;omega
 have q2:p4≤1000000000000000:=(zu TO).2.2.2.2.2.2.1.2
 have q3:0≤p6:=(zu TO).2.2.2.2.2.2.2.1.1
 have q4:p6≤1000000000000000:=(zu TO).2.2.2.2.2.2.2.1.2
 have t3:=(zu T3).lt
 go_region_held3 (fun w'=>w'.cell? ⟨w.heap.size,0,none⟩=some (.slice (some ⟨x.ga,0,none⟩) x.b.ac.length x.ca)∧w'.cell? ⟨w.heap.size,1,none⟩=some (.slice (some ⟨x.gi,0,none⟩) x.b.ic.length x.ci)∧w'.cell? ⟨w.heap.size,2,none⟩=some (.slice (some ⟨x.gb,0,none⟩) x.b.bs.length x.cb)∧w'.cell? ⟨w.heap.size,3,none⟩=some (.slice (some ⟨x.gl,0,none⟩) x.b.ls.length x.cl)∧w'.cell? ⟨w.heap.size,4,none⟩=some (.slice (some ⟨x.gt,0,none⟩) x.b.ts.length x.ct)∧w'.cell? ⟨w.heap.size,5,none⟩=some (.int .i64 x.b.lot)∧w'.cell? ⟨w2.heap.size,0,none⟩=some (.int .i64 p0)∧w'.cell? ⟨w2.heap.size,1,none⟩=some (.int .i64 p1)∧w'.cell? ⟨w2.heap.size,2,none⟩=some (.int .i64 p2)∧w'.cell? ⟨w2.heap.size,3,none⟩=some (.int .i64 p3)∧w'.cell? ⟨w2.heap.size,4,none⟩=some (.int .i64 p4)∧w'.cell? ⟨w2.heap.size,5,none⟩=some (.int .i64 p5)∧w'.cell? ⟨w2.heap.size,6,none⟩=some (.int .i64 p6)∧w'.cell? ⟨w2.heap.size,7,none⟩=some (.int .i64 p7)) (first|exact hold14 (zu S3) (zu T3) (by repeat(first|with_reducible exact zu cA|with_reducible exact zu cB|with_reducible exact zu cC|with_reducible exact zu cD|with_reducible exact zu cE|with_reducible exact zu cF|with_reducible exact Below.refl _ _|with_reducible refine Below.drew ?_|(with_reducible refine Below.alloc ?_ ?hle _;case hle=>first|exact Nat.le_refl _|omega|(simp;omega)|simp)|(with_reducible refine Ans.six ?_ ?hle _ _ _ _ _ _;case hle=>first|exact Nat.le_refl _|omega|(simp;omega))))|exact hold14 (zu A1) (zu X1) (by repeat(first|with_reducible exact zu cA|with_reducible exact zu cB|with_reducible exact zu cC|with_reducible exact zu cD|with_reducible exact zu cE|with_reducible exact zu cF|with_reducible exact Below.refl _ _|with_reducible refine Below.drew ?_|(with_reducible refine Below.alloc ?_ ?hle _;case hle=>first|exact Nat.le_refl _|omega|(simp;omega)|simp)|(with_reducible refine Ans.six ?_ ?hle _ _ _ _ _ _;case hle=>first|exact Nat.le_refl _|omega|(simp;omega))))|exact hold14 (zu A2) (zu X2) (by repeat(first|with_reducible exact zu cA|with_reducible exact zu cB|with_reducible exact zu cC|with_reducible exact zu cD|with_reducible exact zu cE|with_reducible exact zu cF|with_reducible exact Below.refl _ _|with_reducible refine Below.drew ?_|(with_reducible refine Below.alloc ?_ ?hle _;case hle=>first|exact Nat.le_refl _|omega|(simp;omega)|simp)|(with_reducible refine Ans.six ?_ ?hle _ _ _ _ _ _;case hle=>first|exact Nat.le_refl _|omega|(simp;omega))))|exact hold14 (zu A3) (zu X3) (by repeat(first|with_reducible exact zu cA|with_reducible exact zu cB|with_reducible exact zu cC|with_reducible exact zu cD|with_reducible exact zu cE|with_reducible exact zu cF|with_reducible exact Below.refl _ _|with_reducible refine Below.drew ?_|(with_reducible refine Below.alloc ?_ ?hle _;case hle=>first|exact Nat.le_refl _|omega|(simp;omega)|simp)|(with_reducible refine Ans.six ?_ ?hle _ _ _ _ _ _;case hle=>first|exact Nat.le_refl _|omega|(simp;omega)))))
  (first|(go_at_call 44;refine(SCopy.sCopy _ x ((zu S3).r.below (by repeat(first|with_reducible exact zu cA|with_reducible exact zu cB|with_reducible exact zu cC|with_reducible exact zu cD|with_reducible exact zu cE|with_reducible exact zu cF|with_reducible exact Below.refl _ _|with_reducible refine Below.drew ?_|(with_reducible refine Below.alloc ?_ ?hle _;case hle=>first|exact Nat.le_refl _|omega|(simp;omega)|simp)|(with_reducible refine Ans.six ?_ ?hle _ _ _ _ _ _;case hle=>first|exact Nat.le_refl _|omega|(simp;omega)))))).mono ?_;rintro e u1 ⟨z,hz,rfl,oz,bb⟩;have BB1:=zh bb;have cA:=zh (show Below w3.heap.size w3 u1 from Below.trans (by repeat(first|with_reducible exact zu cA|with_reducible exact zu cB|with_reducible exact zu cC|with_reducible exact zu cD|with_reducible exact zu cE|with_reducible exact zu cF|with_reducible exact Below.refl _ _|with_reducible refine Below.drew ?_|(with_reducible refine Below.alloc ?_ ?hle _;case hle=>first|exact Nat.le_refl _|omega|(simp;omega)|simp)|(with_reducible refine Ans.six ?_ ?hle _ _ _ _ _ _;case hle=>first|exact Nat.le_refl _|omega|(simp;omega)))) (bb.mono (by simp)));have sA:=(zu cA).size;(first|(have V0:=zh (Box.below (Box.made (w:=w3.drew) (base:=w.heap.size) (g:=w3.heap.size) (.slice none 0 0) (.slice none 0 0) (.slice none 0 0) (.slice none 0 0) (.slice none 0 0) (.int .i64 0) (by first|omega|(simp;omega)) rfl) bb (by simp)))|skip);have A1:=zh ((zu S3).step (zu cA));have X1:=zh ((zu T3).below (zu cA) t3.2);have HZ:=zh hz;have OZ:=zh (show Ow u1 w3.heap.size z from oz.rebase (by simp));clear bb hz oz)|(go_at_call 83;refine(SLegs.sLegs _ p0 p1 p2 p3 p4 p5 p6 p7 q1 q2 q3 q4).mono ?_;rintro e u2 ⟨gL,cL,rfl,oL,bb2⟩;have BB2:=zh bb2;have cB:=zh (show Below u1.heap.size u1 u2 from Below.trans (by repeat(first|with_reducible exact zu cA|with_reducible exact zu cB|with_reducible exact zu cC|with_reducible exact zu cD|with_reducible exact zu cE|with_reducible exact zu cF|with_reducible exact Below.refl _ _|with_reducible refine Below.drew ?_|(with_reducible refine Below.alloc ?_ ?hle _;case hle=>first|exact Nat.le_refl _|omega|(simp;omega)|simp)|(with_reducible refine Ans.six ?_ ?hle _ _ _ _ _ _;case hle=>first|exact Nat.le_refl _|omega|(simp;omega)))) (bb2.mono (by simp)));have cC:=zh ((zu cA).trans ((zu cB).mono (zu cA).size));have sB:=(zu cB).size;(first|(have V0:=zh (Box.below (zu V0) bb2 (by have:=(zu V0).lt.2;first|exact this|(simp;omega))))|(have V0:=zh (Box.below (Box.made (w:=u1) (base:=w.heap.size) (g:=u1.heap.size) (.slice none 0 0) (.slice none 0 0) (.slice none 0 0) (.slice none 0 0) (.slice none 0 0) (.int .i64 0) (by first|omega|(simp;omega)) rfl) bb2 (by simp)))|skip);have A2:=zh ((zu A1).step (zu cB));have X2:=zh ((zu X1).below (zu cB) (zu X1).lt.2);have OL:=zh (oL.rebase (base':=w3.heap.size) (by have h1:=oL.lt.1;have h2:=(zu cA).size;(try simp at h1);omega));have OZ2:=zh ((zu OZ).below (zu cB) (Nat.le_refl _));clear bb2 oL)|(go_at_call 77;refine(sPost4 _ w3.heap.size z gL cL (p0,p1,p2,p3,p4,p5,p6,p7) ((zu OZ2).below (by repeat(first|with_reducible exact zu cA|with_reducible exact zu cB|with_reducible exact zu cC|with_reducible exact zu cD|with_reducible exact zu cE|with_reducible exact zu cF|with_reducible exact Below.refl _ _|with_reducible refine Below.drew ?_|(with_reducible refine Below.alloc ?_ ?hle _;case hle=>first|exact Nat.le_refl _|omega|(simp;omega)|simp)|(with_reducible refine Ans.six ?_ ?hle _ _ _ _ _ _;case hle=>first|exact Nat.le_refl _|omega|(simp;omega)))) (Nat.le_refl u2.heap.size)) (by rw[zu HZ];exact zu LI) (by rw[zu HZ];exact zu SM) ((zu OL).below (B:=u2.heap.size) (by repeat(first|with_reducible exact zu cA|with_reducible exact zu cB|with_reducible exact zu cC|with_reducible exact zu cD|with_reducible exact zu cE|with_reducible exact zu cF|with_reducible exact Below.refl _ _|with_reducible refine Below.drew ?_|(with_reducible refine Below.alloc ?_ ?hle _;case hle=>first|exact Nat.le_refl _|omega|(simp;omega)|simp)|(with_reducible refine Ans.six ?_ ?hle _ _ _ _ _ _;case hle=>first|exact Nat.le_refl _|omega|(simp;omega)))) (zu OL).lt.2) (zu TO)).mono ?_;rintro e u3 ⟨y1,e1,hpo,rfl,o1,bb3⟩;have BB3:=zh bb3;have cD:=zh (show Below u2.heap.size u2 u3 from Below.trans (by repeat(first|with_reducible exact zu cA|with_reducible exact zu cB|with_reducible exact zu cC|with_reducible exact zu cD|with_reducible exact zu cE|with_reducible exact zu cF|with_reducible exact Below.refl _ _|with_reducible refine Below.drew ?_|(with_reducible refine Below.alloc ?_ ?hle _;case hle=>first|exact Nat.le_refl _|omega|(simp;omega)|simp)|(with_reducible refine Ans.six ?_ ?hle _ _ _ _ _ _;case hle=>first|exact Nat.le_refl _|omega|(simp;omega)))) (bb3.mono (by simp)));have cE:=zh ((zu cB).trans ((zu cD).mono (zu cB).size));have cF:=zh ((zu cC).trans ((zu cD).mono (zu cC).size));have sD:=(zu cD).size;(first|(have V0:=zh (Box.below (zu V0) bb3 (by have:=(zu V0).lt.2;first|exact this|(simp;omega))))|(have V0:=zh (Box.below (Box.made (w:=u2) (base:=w.heap.size) (g:=u2.heap.size) (.slice none 0 0) (.slice none 0 0) (.slice none 0 0) (.slice none 0 0) (.slice none 0 0) (.int .i64 0) (by first|omega|(simp;omega)) rfl) bb3 (by simp)))|skip);(first|(have k0:=(zu V0).c0;have k1:=(zu V0).c1;have k2:=(zu V0).c2;have k3:=(zu V0).c3;have k4:=(zu V0).c4;have k5:=(zu V0).c5;have v0:=(zu V0).free 0;have v1:=(zu V0).free 1;have v2:=(zu V0).free 2;have v3:=(zu V0).free 3;have v4:=(zu V0).free 4;have v5:=(zu V0).free 5)|skip);have A3:=zh ((zu A2).step (zu cD));have X3:=zh ((zu X2).below (zu cD) (zu X2).lt.2);have HPO:=zh hpo;have O1:=zh o1;clear bb3 hpo o1))
 have HPX:=zh (show IsPosted x.b (legsT (p0,p1,p2,p3,p4,p5,p6,p7)) y1.b e1 from by have h:=zu HPO;rw[zu HZ] at h;exact h)
 have sv:=(zu S3).v.lt
 have sv2:=(zu S2).v.lt
 refine to_wc (fun W=>SR w W x∧Box8 W w.heap.size w2.heap.size (p0,p1,p2,p3,p4,p5,p6,p7)∧Box W w.heap.size u3.heap.size (.slice (some ⟨y1.ga,0,none⟩) y1.b.ac.length y1.ca) (.slice (some ⟨y1.gi,0,none⟩) y1.b.ic.length y1.ci) (.slice (some ⟨y1.gb,0,none⟩) y1.b.bs.length y1.cb) (.slice (some ⟨y1.gl,0,none⟩) y1.b.ls.length y1.cl) (.slice (some ⟨y1.gt,0,none⟩) y1.b.ts.length y1.ct) (.int .i64 y1.b.lot)∧Ow W w3.heap.size y1) ?_ ?_
 ·exact⟨(zu A3).step (one_more u3 _),(zu X3).alloc _,Box.made _ _ _ _ _ _ (zu A3).b.size rfl,ow_alloc (zu O1) _⟩
 rintro W ⟨AS',XS',VS',OS'⟩
 have AS:=zh AS'
 have XS:=zh XS'
 have VS:=zh VS'
 have OS:=zh OS'
 clear AS' XS' VS' OS'
 have l6:w.heap.size+1≠u3.heap.size:=by omega
 have l7:w.heap.size≠u3.heap.size:=by omega
 have l8:w2.heap.size≠u3.heap.size:=by omega
 generalize hgo:u3.heap.size=go at VS l6 l7 l8⊢
 have l9:w3.heap.size≤go:=by omega
 clear hgo
 rotate_left
 have HPX:=zh (show IsPosted x.b (legsT (p0,p1,p2,p3,p4,p5,p6,p7)) y1.b e1 from by have h:=zu HPO;rw[zu HZ] at h;exact h)
 clear k0 k1 k2 k3 k4 k5 v0 v1 v2 v3 v4 v5
 have sv:=(zu S3).v.lt
 have sv2:=(zu S2).v.lt
 refine to_wc (fun W=>SR w W x∧Box8 W w.heap.size w2.heap.size (p0,p1,p2,p3,p4,p5,p6,p7)∧Box W w.heap.size u2.heap.size (.slice (some ⟨y1.ga,0,none⟩) y1.b.ac.length y1.ca) (.slice (some ⟨y1.gi,0,none⟩) y1.b.ic.length y1.ci) (.slice (some ⟨y1.gb,0,none⟩) y1.b.bs.length y1.cb) (.slice (some ⟨y1.gl,0,none⟩) y1.b.ls.length y1.cl) (.slice (some ⟨y1.gt,0,none⟩) y1.b.ts.length y1.ct) (.int .i64 y1.b.lot)∧Ow W w3.heap.size y1) ?_ ?_
 ·exact⟨SIssue.SR.grown (zu HR) (zu A3) (box_six (zu V0) _ _ _ _ _ _).2 (by omega),(zu X3).kept (box_six (zu V0) _ _ _ _ _ _).2 (fun e=>by injection e;omega),(box_six (zu V0) _ _ _ _ _ _).1,ow_six (zu O1) (off_box (zu O1) (zu V0)) _ _ _ _ _ _⟩
 rintro W ⟨AS',XS',VS',OS'⟩
 have AS:=zh AS'
 have XS:=zh XS'
 have VS:=zh VS'
 have OS:=zh OS'
 clear AS' XS' VS' OS'
 have l6:w.heap.size+1≠u2.heap.size:=by omega
 have l7:w.heap.size≠u2.heap.size:=by omega
 have l8:w2.heap.size≠u2.heap.size:=by omega
 generalize hgo:u2.heap.size=go at VS l6 l7 l8⊢
 have l9:w3.heap.size≤go:=by omega
 clear hgo
 rotate_left
 have HPX:=zh (show IsPosted x.b (legsT (p0,p1,p2,p3,p4,p5,p6,p7)) y1.b e1 from by have h:=zu HPO;rw[zu HZ] at h;exact h)
 clear k0 k1 k2 k3 k4 k5 v0 v1 v2 v3 v4 v5
 have sv:=(zu S3).v.lt
 have sv2:=(zu S2).v.lt
 refine to_wc (fun W=>SR w W x∧Box8 W w.heap.size w2.heap.size (p0,p1,p2,p3,p4,p5,p6,p7)∧Box W w.heap.size u1.heap.size (.slice (some ⟨y1.ga,0,none⟩) y1.b.ac.length y1.ca) (.slice (some ⟨y1.gi,0,none⟩) y1.b.ic.length y1.ci) (.slice (some ⟨y1.gb,0,none⟩) y1.b.bs.length y1.cb) (.slice (some ⟨y1.gl,0,none⟩) y1.b.ls.length y1.cl) (.slice (some ⟨y1.gt,0,none⟩) y1.b.ts.length y1.ct) (.int .i64 y1.b.lot)∧Ow W w3.heap.size y1) ?_ ?_
 ·exact⟨SIssue.SR.grown (zu HR) (zu A3) (box_six (zu V0) _ _ _ _ _ _).2 (by omega),(zu X3).kept (box_six (zu V0) _ _ _ _ _ _).2 (fun e=>by injection e;omega),(box_six (zu V0) _ _ _ _ _ _).1,ow_six (zu O1) (off_box (zu O1) (zu V0)) _ _ _ _ _ _⟩
 rintro W ⟨AS',XS',VS',OS'⟩
 have AS:=zh AS'
 have XS:=zh XS'
 have VS:=zh VS'
 have OS:=zh OS'
 clear AS' XS' VS' OS'
 have l6:w.heap.size+1≠u1.heap.size:=by omega
 have l7:w.heap.size≠u1.heap.size:=by omega
 have l8:w2.heap.size≠u1.heap.size:=by omega
 generalize hgo:u1.heap.size=go at VS l6 l7 l8⊢
 have l9:w3.heap.size≤go:=by omega
 clear hgo
 rotate_left
 have HPX:=zh (show IsPosted x.b (legsT (p0,p1,p2,p3,p4,p5,p6,p7)) y1.b e1 from by have h:=zu HPO;rw[zu HZ] at h;exact h)
 clear k0 k1 k2 k3 k4 k5 v0 v1 v2 v3 v4 v5
 have sv:=(zu S3).v.lt
 have sv2:=(zu S2).v.lt
 refine to_wc (fun W=>SR w W x∧Box8 W w.heap.size w2.heap.size (p0,p1,p2,p3,p4,p5,p6,p7)∧Box W w.heap.size w3.heap.size (.slice (some ⟨y1.ga,0,none⟩) y1.b.ac.length y1.ca) (.slice (some ⟨y1.gi,0,none⟩) y1.b.ic.length y1.ci) (.slice (some ⟨y1.gb,0,none⟩) y1.b.bs.length y1.cb) (.slice (some ⟨y1.gl,0,none⟩) y1.b.ls.length y1.cl) (.slice (some ⟨y1.gt,0,none⟩) y1.b.ts.length y1.ct) (.int .i64 y1.b.lot)∧Ow W w3.heap.size y1) ?_ ?_
 ·exact⟨SIssue.SR.grown (zu HR) (zu A3) (box_six (zu V0) _ _ _ _ _ _).2 (by omega),(zu X3).kept (box_six (zu V0) _ _ _ _ _ _).2 (fun e=>by injection e;omega),(box_six (zu V0) _ _ _ _ _ _).1,ow_six (zu O1) (off_box (zu O1) (zu V0)) _ _ _ _ _ _⟩
 rintro W ⟨AS',XS',VS',OS'⟩
 have AS:=zh AS'
 have XS:=zh XS'
 have VS:=zh VS'
 have OS:=zh OS'
 clear AS' XS' VS' OS'
 have l6:w.heap.size+1≠w3.heap.size:=by omega
 have l7:w.heap.size≠w3.heap.size:=by omega
 have l8:w2.heap.size≠w3.heap.size:=by omega
 generalize hgo:w3.heap.size=go at VS l6 l7 l8⊢
 have l9:w3.heap.size≤go:=by omega
 clear hgo
 rotate_left
 all_goals
  clear c0 c1 c2 c3 c4 c5 r0 r1 r2 r3 r4 r5 f0 f1 f2 f3 f4 f5 d0 d1 d2 d3 d4 d5 d6 d7
  by_cases z1:e1=0
  ·subst z1
   have LOT:=zh (show 0≤y1.b.lot∧y1.b.lot≤1000000000 from by rw[(posted_lot (zu HPX)).1];exact(zu LI).2.2.2.2.2)
   have SMY:=zh (posted_small (zu HPX) (zu SM))
   obtain⟨a0,a1,a2,a3,a4,a5,af0,af1,af2,af3,af4,af5⟩:=Box.all (zu VS)
   obtain⟨h0,h1,h2,h3,h4,h5,h6,h7,hf0,hf1,hf2,hf3,hf4,hf5,hf6,hf7⟩:=TBox.Box8.all (zu XS)
   go_wp2_with fail
   refine(SCarryP.sCarryP W w3.heap.size y1 p2 p1 p3 p4 fk p6 q3 (zu OS) (zu LOT) (zu SMY)).mono ?_
   rintro e w7 ⟨y2,t2,d2,ho,rfl,o2,bb⟩
   have S7:=zh ((zu AS).step bb)
   have V7:=zh ((zu VS).below bb (zu VS).lt.2)
   have X7:=zh ((zu XS).below bb (zu XS).lt.2)
   have O2:=zh o2
   have HO:=zh ho
   clear bb o2 ho
   clear a0 a1 a2 a3 a4 a5 af0 af1 af2 af3 af4 af5 h0 h1 h2 h3 h4 h5 h6 h7 hf0 hf1 hf2 hf3 hf4 hf5 hf6 hf7
   obtain⟨a0,a1,a2,a3,a4,a5,af0,af1,af2,af3,af4,af5⟩:=Box.all (zu V7)
   obtain⟨h0,h1,h2,h3,h4,h5,h6,h7,hf0,hf1,hf2,hf3,hf4,hf5,hf6,hf7⟩:=TBox.Box8.all (zu X7)
   have F2:=zh (off_box (zu O2) (zu V7))
   by_cases z2:d2=0
   ·subst z2
    have TS:=zh (show y2.b.ts=x.b.ts from(carried_ts (zu HO)).trans (posted_ts (zu HPX)))
    have tk:k<y2.b.ts.length:=by rw[zu TS];exact t
    have ny:y2.b.ts.length≤1048576:=by rw[zu TS];exact nt
    have IZ:=zh (show IsSettle x.b no fk (withS y2 k 2).b (IntKind.i64.wrap (p6-t2)) 0 from by
     refine .inr ⟨k,zu KK,.inr ?_⟩
     rw[zu HPP]
     obtain⟨b2,k2,c2,ht,⟨hne,_,hc⟩|⟨rfl,ho,rfl⟩⟩:=zu HO
     ·exact absurd hc.symm hne
     ·exact⟨zu HST,y1.b,0,zu HPX,.inr ⟨rfl,b2,_,0,ht,.inr ⟨rfl,y2.b,0,ho,.inr ⟨rfl,rfl,rfl,rfl⟩⟩⟩⟩)
    have e7:=((zu O2).ot.at k tk).2.2.2.2.2.2.2
    have e8:=(zu O2).ot.free (k*8+7)
    have gy:=(zu O2).ot.lt
    have m1:=(zu F2).2.2.2.2
    have m2:y2.gt≠w.heap.size+1:=by omega
    have m3:y2.gt≠w2.heap.size:=by have:=(zu T3).lt;omega
    go_wp2_with fail
    refine to_wc (fun W=>SR w W x∧Box8 W w.heap.size w2.heap.size (p0,p1,p2,p3,p4,p5,p6,p7)∧Box W w.heap.size go (.slice (some ⟨y2.ga,0,none⟩) y2.b.ac.length y2.ca) (.slice (some ⟨y2.gi,0,none⟩) y2.b.ic.length y2.ci) (.slice (some ⟨y2.gb,0,none⟩) y2.b.bs.length y2.cb) (.slice (some ⟨y2.gl,0,none⟩) y2.b.ls.length y2.cl) (.slice (some ⟨y2.gt,0,none⟩) y2.b.ts.length y2.ct) (.int .i64 y2.b.lot)∧Ow W w3.heap.size (withS y2 k 2)) ?_ ?_
    ·have G1:=(box_six (zu V7) (.slice (some ⟨y2.ga,0,none⟩) y2.b.ac.length y2.ca) (.slice (some ⟨y2.gi,0,none⟩) y2.b.ic.length y2.ci) (.slice (some ⟨y2.gb,0,none⟩) y2.b.bs.length y2.cb) (.slice (some ⟨y2.gl,0,none⟩) y2.b.ls.length y2.cl) (.slice (some ⟨y2.gt,0,none⟩) y2.b.ts.length y2.ct) (.int .i64 y2.b.lot))
     have OO:=ow_six (zu O2) (zu F2) (.slice (some ⟨y2.ga,0,none⟩) y2.b.ac.length y2.ca) (.slice (some ⟨y2.gi,0,none⟩) y2.b.ic.length y2.ci) (.slice (some ⟨y2.gb,0,none⟩) y2.b.bs.length y2.cb) (.slice (some ⟨y2.gl,0,none⟩) y2.b.ls.length y2.cl) (.slice (some ⟨y2.gt,0,none⟩) y2.b.ts.length y2.ct) (.int .i64 y2.b.lot)
     have G2:=state_grown OO k 2
     exact⟨SIssue.SR.grown (zu HR) (SIssue.SR.grown (zu HR) (zu S7) G1.2 (by omega)) G2 (by omega),((zu X7).kept G1.2 (fun e=>by injection e;omega)).kept G2 (fun e=>by injection e;omega),G1.1.kept G2 (fun e=>by injection e;omega),ow_state OO k 2⟩
    rintro W9 ⟨AS',XS',VS',OS'⟩
    have A9:=zh AS'
    have X9:=zh XS'
    have V9:=zh VS'
    have O9:=zh OS'
    clear AS' XS' VS' OS' e7 e8
    clear a0 a1 a2 a3 a4 a5 af0 af1 af2 af3 af4 af5 h0 h1 h2 h3 h4 h5 h6 h7 hf0 hf1 hf2 hf3 hf4 hf5 hf6 hf7
    have KW:=And.intro (zu V9).c0 (And.intro (zu V9).c1 (And.intro (zu V9).c2 (And.intro (zu V9).c3 (And.intro (zu V9).c4 (And.intro (zu V9).c5 (zu X9).c6)))))
    obtain⟨s0,s1,s2,s3,s4,s5,sf0,sf1,sf2,sf3,sf4,sf5⟩:=Box.all ((zu A9).v)
    have U9:=zh (box_six (zu A9).v (.slice (some ⟨y2.ga,0,none⟩) y2.b.ac.length y2.ca) (.slice (some ⟨y2.gi,0,none⟩) y2.b.ic.length y2.ci) (.slice (some ⟨y2.gb,0,none⟩) y2.b.bs.length y2.cb) (.slice (some ⟨y2.gl,0,none⟩) y2.b.ls.length y2.cl) (.slice (some ⟨y2.gt,0,none⟩) y2.b.ts.length y2.ct) (.int .i64 y2.b.lot))
    have VU:=zh (Box.below ((zu V9).kept (zu U9).2 (fun e=>by injection e;omega)) (Below.refl _ _).drew (by simpa using(zu V9).lt.2))
    have XU:=zh (Box8.below ((zu X9).kept (zu U9).2 (fun e=>by injection e;omega)) (Below.refl _ _).drew (by simpa using(zu X9).lt.2))
    have VD:=zh ((zu V9).below (Below.refl _ _).drew (zu V9).lt.2)
    have XD:=zh ((zu X9).below (Below.refl _ _).drew (zu X9).lt.2)
    have K9:=And.intro (zu VD).c0 (And.intro (zu VD).c1 (And.intro (zu VD).c2 (And.intro (zu VD).c3 (And.intro (zu VD).c4 (And.intro (zu VD).c5 (zu XD).c6)))))
    have K10:=And.intro (zu VU).c0 (And.intro (zu VU).c1 (And.intro (zu VU).c2 (And.intro (zu VU).c3 (And.intro (zu VU).c4 (And.intro (zu VU).c5 (zu XU).c6)))))
    obtain⟨r0,r1,r2,r3,r4,r5,f0,f1,f2,f3,f4,f5⟩:=Box.all ((zu A9).v)
    have F9:=zh (off_box (zu O9) (zu A9).v)
    go_region_held3 (fun w'=>w'.cell? ⟨go,0,none⟩=some (.slice (some ⟨y2.ga,0,none⟩) y2.b.ac.length y2.ca)∧w'.cell? ⟨go,1,none⟩=some (.slice (some ⟨y2.gi,0,none⟩) y2.b.ic.length y2.ci)∧w'.cell? ⟨go,2,none⟩=some (.slice (some ⟨y2.gb,0,none⟩) y2.b.bs.length y2.cb)∧w'.cell? ⟨go,3,none⟩=some (.slice (some ⟨y2.gl,0,none⟩) y2.b.ls.length y2.cl)∧w'.cell? ⟨go,4,none⟩=some (.slice (some ⟨y2.gt,0,none⟩) y2.b.ts.length y2.ct)∧w'.cell? ⟨go,5,none⟩=some (.int .i64 y2.b.lot)∧w'.cell? ⟨w2.heap.size,6,none⟩=some (.int .i64 p6)) (first|with_reducible exact KW|with_reducible exact K9|with_reducible exact K10) (fail)
    go_wp2
    refine to_wb (fun W=>Box W w.heap.size (w.heap.size+1) (.slice (some ⟨y2.ga,0,none⟩) y2.b.ac.length y2.ca) (.slice (some ⟨y2.gi,0,none⟩) y2.b.ic.length y2.ci) (.slice (some ⟨y2.gb,0,none⟩) y2.b.bs.length y2.cb) (.slice (some ⟨y2.gl,0,none⟩) y2.b.ls.length y2.cl) (.slice (some ⟨y2.gt,0,none⟩) y2.b.ts.length y2.ct) (.int .i64 y2.b.lot)∧Below w.heap.size w W∧Ow W w.heap.size (withS y2 k 2)) ?_ ?_
    ·exact⟨Box.below (zu U9).1 (Below.refl _ _).drew (by have:=(zu A9).v.lt.2;simpa using this),(six (zu A9).b (by omega) _ _ _ _ _ _).drew,(Ow.below (ow_six (zu O9) (zu F9) _ _ _ _ _ _) (Below.refl _ _).drew (Nat.le_refl _)).rebase (zu S3).b.size⟩
    rintro W ⟨X,B,OW⟩
    have g0:=X.c0
    have g1:=X.c1
    have g2:=X.c2
    have g3:=X.c3
    have g4:=X.c4
    have g5:=X.c5
    exact bodyPost_ret (v:= .tuple #[.agg #[.slice (some ⟨y2.ga,0,none⟩) y2.b.ac.length y2.ca,.slice (some ⟨y2.gi,0,none⟩) y2.b.ic.length y2.ci,.slice (some ⟨y2.gb,0,none⟩) y2.b.bs.length y2.cb,.slice (some ⟨y2.gl,0,none⟩) y2.b.ls.length y2.cl,.slice (some ⟨y2.gt,0,none⟩) y2.b.ts.length y2.ct,.int .i64 y2.b.lot],.int .i64 (IntKind.i64.wrap (p6-t2)),.int .i64 0]) (by simp[results,Tryz.results53,go_sem,g0,g1,g2,g3,g4,g5]) rfl (.inr ⟨zu TT,withS y2 k 2,_,0,zu IZ,by simp[set_len],OW,B⟩)
   ·have z2c:(d2 !=0)=true:=ne_true z2
    have IZ2:=zh (show IsSettle x.b no fk x.b 0 d2 from by
     refine .inr ⟨k,zu KK,.inr ?_⟩
     rw[zu HPP]
     obtain⟨b2,k2,c2,ht,⟨hne,_,rfl⟩|⟨rfl,ho,rfl⟩⟩:=zu HO
     ·exact⟨zu HST,y1.b,0,zu HPX,.inr ⟨rfl,b2,k2,_,ht,.inl ⟨hne,rfl,rfl,rfl⟩⟩⟩
     ·exact⟨zu HST,y1.b,0,zu HPX,.inr ⟨rfl,b2,_,0,ht,.inr ⟨rfl,y2.b,d2,ho,.inl ⟨z2,rfl,rfl,rfl⟩⟩⟩⟩)
    clear z2
    have TG:=zh (SIssue.SR.grown (zu HR) (zu S7) (box_six (zu V7) (.slice (some ⟨y2.ga,0,none⟩) y2.b.ac.length y2.ca) (.slice (some ⟨y2.gi,0,none⟩) y2.b.ic.length y2.ci) (.slice (some ⟨y2.gb,0,none⟩) y2.b.bs.length y2.cb) (.slice (some ⟨y2.gl,0,none⟩) y2.b.ls.length y2.cl) (.slice (some ⟨y2.gt,0,none⟩) y2.b.ts.length y2.ct) (.int .i64 y2.b.lot)).2 (by omega))
    obtain⟨c0,c1,c2,c3,c4,c5⟩:=(zu S7).c
    obtain⟨r0,r1,r2,r3,r4,r5,f0,f1,f2,f3,f4,f5⟩:=Box.all ((zu S7).v)
    go_wp2_with fail
    refine(SCopy.sCopy _ x (zu TG).r).mono ?_
    rintro e w8 ⟨z,hz,rfl,oz,bb⟩
    have S8:=zh ((zu TG).step bb)
    have OZ:=zh (oz.rebase (zu TG).b.size)
    have LZ:=zh (ow_lo oz)
    have zl:=(zu TG).v.lt.2
    have IZ:=zh (show IsSettle x.b no fk z.b 0 d2 from by rw[hz];exact(zu IZ2))
    clear bb oz hz
    clear c0 c1 c2 c3 c4 c5 r0 r1 r2 r3 r4 r5 f0 f1 f2 f3 f4 f5
    obtain⟨c0,c1,c2,c3,c4,c5⟩:=(zu S8).c
    obtain⟨r0,r1,r2,r3,r4,r5,f0,f1,f2,f3,f4,f5⟩:=Box.all ((zu S8).v)
    go_wp2
    refine bodyPost_ret (v:= .tuple #[.agg #[.slice (some ⟨z.ga,0,none⟩) z.b.ac.length z.ca,.slice (some ⟨z.gi,0,none⟩) z.b.ic.length z.ci,.slice (some ⟨z.gb,0,none⟩) z.b.bs.length z.cb,.slice (some ⟨z.gl,0,none⟩) z.b.ls.length z.cl,.slice (some ⟨z.gt,0,none⟩) z.b.ts.length z.ct,.int .i64 z.b.lot],.int .i64 0,.int .i64 d2]) (by simp[results,Tryz.results53,go_sem,r0,r1,r2,r3,r4,r5]) rfl (.inr ⟨zu TT,z,0,d2,zu IZ,rfl,?_,?_⟩)
    ·exact ow_six (zu OZ) (off_lo (zu LZ) zl) _ _ _ _ _ _
    ·exact six (zu S8).b (by omega) _ _ _ _ _ _
  ·have z1b:(e1==0)=false:=SIssue.eq_false z1
   have z1c:(e1 !=0)=true:=ne_true z1
   have IZ1:=zh (show IsSettle x.b no fk x.b 0 e1 from by
    refine .inr ⟨k,zu KK,.inr ?_⟩
    rw[zu HPP]
    exact⟨zu HST,y1.b,e1,zu HPX,.inl ⟨z1,rfl,rfl,rfl⟩⟩)
   clear z1
   obtain⟨c0,c1,c2,c3,c4,c5⟩:=(zu AS).c
   obtain⟨r0,r1,r2,r3,r4,r5,f0,f1,f2,f3,f4,f5⟩:=Box.all ((zu AS).v)
   go_wp2_with fail
   refine(SCopy.sCopy _ x (zu AS).r).mono ?_
   rintro e w8 ⟨z,hz,rfl,oz,bb⟩
   have S8:=zh ((zu AS).step bb)
   have OZ:=zh (oz.rebase (zu AS).b.size)
   have LZ:=zh (ow_lo oz)
   have zl:=(zu AS).v.lt.2
   have IZ:=zh (show IsSettle x.b no fk z.b 0 e1 from by rw[hz];exact(zu IZ1))
   clear bb oz hz
   clear c0 c1 c2 c3 c4 c5 r0 r1 r2 r3 r4 r5 f0 f1 f2 f3 f4 f5
   obtain⟨c0,c1,c2,c3,c4,c5⟩:=(zu S8).c
   obtain⟨r0,r1,r2,r3,r4,r5,f0,f1,f2,f3,f4,f5⟩:=Box.all ((zu S8).v)
   go_wp2
   refine bodyPost_ret (v:= .tuple #[.agg #[.slice (some ⟨z.ga,0,none⟩) z.b.ac.length z.ca,.slice (some ⟨z.gi,0,none⟩) z.b.ic.length z.ci,.slice (some ⟨z.gb,0,none⟩) z.b.bs.length z.cb,.slice (some ⟨z.gl,0,none⟩) z.b.ls.length z.cl,.slice (some ⟨z.gt,0,none⟩) z.b.ts.length z.ct,.int .i64 z.b.lot],.int .i64 0,.int .i64 e1]) (by simp[results,Tryz.results53,go_sem,r0,r1,r2,r3,r4,r5]) rfl (.inr ⟨zu TT,z,0,e1,zu IZ,rfl,?_,?_⟩)
   ·exact ow_six (zu OZ) (off_lo (zu LZ) zl) _ _ _ _ _ _
   ·exact six (zu S8).b (by omega) _ _ _ _ _ _
end SSettle
namespace Keep
open Bks Trd
open Bals (T3 el3 val sumI)
open Tup5 (T5 el5)
open Tup8 (T8 el8)
open Lots (qtyOf NoOk mergeL ownL restL One)
open Takes (sumQ takeL takeC)
open PostMore (sumK)
theorem tright_iff(ps:List T8):TRight ps↔ps.length≤30∧(∀p∈ps,TOne p)∧ps.Pairwise (fun p q=>p.1<q.1):=by
 constructor
 ·intro h
  refine⟨h.1,fun p hp=>?_,?_⟩
  ·obtain⟨i,hi,rfl⟩:=Tup8.mem_getD hp
   exact(h.2 i hi).1
  ·rw[List.pairwise_iff_getElem]
   intro i j hi hj hij
   have:=asc h j i hij hj
   simpa[el8,List.getD,hi,hj] using this
 ·rintro⟨hl,h1,h2⟩
  refine⟨hl,fun i hi=>⟨h1 _ (Tup8.getD_mem hi),fun i0=>?_⟩⟩
  rw[List.pairwise_iff_getElem] at h2
  have:=h2 (i-1) i (by omega) hi (by omega)
  have hi':i-1<ps.length:=by omega
  simpa[el8,List.getD,hi,hi'] using this
theorem tfit_iff(b:Bk):TradesFit b↔∀p∈b.ts,TradeFit b p:=by
 constructor
 ·intro h p hp
  obtain⟨i,hi,rfl⟩:=Tup8.mem_getD hp
  exact h i hi
 ·exact fun h k hk=>h _ (Tup8.getD_mem hk)
theorem state_get(ps:List T8)(k:Nat)(s:Int)(i:Nat)(h:i<(setState ps k s).length)(h':i<ps.length):(setState ps k s)[i]=if k=i then inState ps[i] s else ps[i]:=List.getElem_modify (fun p=>inState p s) k ps i h
theorem state_mem{ps:List T8}{k:Nat}{s:Int}{p:T8}(h:p∈setState ps k s):p∈ps∨∃q∈ps,p=inState q s:=by
 obtain⟨i,hi,rfl⟩:=List.getElem_of_mem h
 have hi':i<ps.length:=by rw[set_len] at hi;exact hi
 rw[state_get ps k s i hi hi']
 split
 ·exact .inr ⟨ps[i],List.getElem_mem hi',rfl⟩
 ·exact .inl (List.getElem_mem hi')
theorem state_no(ps:List T8)(k:Nat)(s:Int):(setState ps k s).map (·.1)=ps.map (·.1):=by
 apply List.ext_getElem
 ·simp[set_len]
 ·intro i h1 h2
  simp only[List.getElem_map]
  rw[state_get ps k s i (by simpa using h1) (by simpa using h2)]
  split<;>rfl
theorem asc_no(ps:List T8):ps.Pairwise (fun p q=>p.1<q.1)↔(ps.map (·.1)).Pairwise (· < ·):=by
 rw[List.pairwise_map]
theorem ok_state{b:Bk}(h:Ok b)(k:Nat){s:Int}(s1:1≤s)(s2:s≤3):Ok {b with ts:=setState b.ts k s}:=by
 obtain⟨⟨la,li,lb,ll,lt,lo⟩,hb,hl,ht⟩:=h
 obtain⟨t1,t2,t3⟩:=(tright_iff _).1 lt
 refine⟨⟨la,li,lb,ll,(tright_iff _).2 ⟨?_,fun p hp=>?_,?_⟩,lo⟩,hb,hl,(tfit_iff _).2 fun p hp=>?_⟩
 ·rw[set_len];exact t1
 ·rcases state_mem hp with hp|⟨q,hq,rfl⟩
  ·exact t2 p hp
  ·obtain⟨a,b,c,d,e,f,g,i,j⟩:=t2 q hq
   exact⟨a,b,c,d,e,f,g,i,s1,s2⟩
 ·rw[asc_no,state_no,←asc_no];exact t3
 ·rcases state_mem hp with hp|⟨q,hq,rfl⟩
  ·exact(tfit_iff b).1 ht p hp
  ·exact(tfit_iff b).1 ht q hq
theorem short_mem:∀{ps:List (Int×Int)} {a:Int},a∈shortL ps→∃p∈ps,p.1=a∧p.2≠1
 |[],a,h=>by simp[shortL] at h
 |p::r,a,h=>by
  unfold shortL at h
  rcases List.mem_append.1 h with h|h
  ·split at h
   ·simp at h
   ·rename_i e
    exact⟨p,by simp,(List.mem_singleton.1 h).symm,e⟩
  ·obtain⟨q,hq,e⟩:=short_mem h
   exact⟨q,by simp[hq],e⟩
theorem holder_not{ps:List (Int×Int)}(h:Chart.Right 20 4 ps){a:Int}(k:kindOf ps a=1):a∉shortL ps:=by
 intro e
 obtain⟨p,hp,rfl,e2⟩:=short_mem e
 rw[kind_of_mem (right_one h) p hp] at k
 exact e2 k
theorem sumK_none:∀{ls:List T3} {a i:Int},(∀l∈ls,¬(l.1=a∧l.2.1=i))→sumK ls a i=0
 |[],_,_,_=>rfl
 |p::r,a,i,h=>by
  unfold sumK
  rw[if_neg (h p (by simp)),sumK_none (fun l hl=>h l (by simp[hl]))]
  rfl
structure Posted(b:Bk)(ls qs:List T3):Prop where
 right:Bals.Right qs
 fit:BalsFit {b with bs:=qs}
 val:∀a i,val qs a i=val b.bs a i+sumK ls a i
theorem posted{b b1:Bk}{ls:List T3}(h:Ok b)(he:Bals.Even ls)(hk:∀l∈ls,kindOf b.ac l.1≠0∧kindOf b.ic l.2.1≠0)(p:IsPosted b ls b1 0):∃qs,b1={b with bs:=qs}∧Posted b ls qs:=by
 obtain⟨qs,pc,hp,⟨rfl,rfl,_⟩|⟨_,_,e⟩|⟨_,_,e⟩|⟨_,_,e⟩⟩:=p
 rotate_left
 ·omega
 ·omega
 ·omega
 obtain⟨_,_,e⟩|⟨_,_,_,e⟩|⟨_,_,_,_,e⟩|⟨f,_,_,_,_,_,e⟩|⟨f,us,_,_,_,_,_,_,_,e⟩|⟨f,hr,hev,hf,hlk,hlo,hln,_⟩:=hp
 ·omega
 ·omega
 ·omega
 ·omega
 ·omega
 have fine:=Bals.posts_fine ls _ f (Bals.fine_of hr.1) (fun l hl=>by
  obtain⟨i,hi,rfl⟩:=Bals.mem_getD hl
  exact⟨(hr.2.1.2 i hi).1,(hr.2.1.2 i hi).2.1⟩) hf
 have right:=hlo.right fine hln
 have hv:∀a i,val qs a i=val b.bs a i+sumK ls a i:=fun a i=>by rw[hlo.2 a i];exact PostMore.posts_sum ls _ f hf a i
 refine⟨qs,rfl,right,⟨fun k hk'=>?_,fun i=>?_⟩,hv⟩
 ·have hm:=Bals.getD_mem hk'
  obtain⟨n0,hval⟩:=(right.good.mem _).1 hm
  obtain⟨a,i,x,hp⟩:∃a i x,el3 qs k=(a,i,x):=⟨_,_,_,rfl⟩
  show BalFit {b with bs:=qs} (el3 qs k)
  rw[hp] at n0 hval⊢
  have n0:x≠0:=n0
  have hval:val qs a i=x:=hval
  have old:val b.bs a i≠0→kindOf b.ac a≠0∧kindOf b.ic i≠0∧¬(kindOf b.ac a=1∧val b.bs a i<0):=fun e=>by
   obtain⟨j,hj,ej⟩:=Bals.mem_getD (Bals.val_mem b.bs a i e)
   have:=h.2.1.1 j hj
   rw[ej] at this
   exact this
  by_cases leg:∃l∈ls,l.1=a∧l.2.1=i
  ·obtain⟨l,hl,rfl,rfl⟩:=leg
   refine⟨(hk l hl).1,(hk l hl).2,fun e=>hlk ?_⟩
   obtain⟨j,hj,ej⟩:=Bals.mem_getD hl
   refine⟨j,hj,?_,?_⟩
   ·rw[ej,←hlo.2,hval];exact e.2
   ·rw[ej];exact holder_not h.1.1 e.1
  ·have z:sumK ls a i=0:=sumK_none (fun l hl e=>leg ⟨l,hl,e⟩)
   have e:=hv a i
   rw[z,hval] at e
   have e':val b.bs a i=x:=by omega
   have o:=old (by omega)
   rw[e'] at o
   exact o
 ·show sumI qs i=0
  rw[PostMore.posts_sumI i ls b.bs qs f hr.1.good hf hlo,h.2.1.2 i,he i]
  rfl
theorem merge_qty(a i:Int):∀(n:Nat) (A B:List T5),A.length+B.length≤n→qtyOf (mergeL n A B) a i=qtyOf A a i+qtyOf B a i
 |0,[],[],_=>rfl
 |0,x::A,_,h=>by simp at h
 |0,[],y::B,h=>by simp at h
 |n+1,[],B,h=>by rw[Takes.merge_right _ _ (by simpa using h)];simp[qtyOf]
 |n+1,x::A,[],h=>by rw[Takes.merge_left _ _ (by simpa using h)];simp[qtyOf]
 |n+1,x::A,y::B,h=>by
  by_cases e:Lots.Bef x y
  ·rw[Takes.merge_yes e]
   show(if x.1=a∧x.2.1=i then x.2.2.2.1 else 0)+qtyOf (mergeL n A (y::B)) a i=((if x.1=a∧x.2.1=i then x.2.2.2.1 else 0)+qtyOf A a i)+qtyOf (y::B) a i
   rw[merge_qty a i n A (y::B) (by simp at h⊢;omega)]
   omega
  ·rw[Takes.merge_no e]
   show(if y.1=a∧y.2.1=i then y.2.2.2.1 else 0)+qtyOf (mergeL n (x::A) B) a i=qtyOf (x::A) a i+((if y.1=a∧y.2.1=i then y.2.2.2.1 else 0)+qtyOf B a i)
   rw[merge_qty a i n (x::A) B (by simp at h⊢;omega)]
   omega
structure Taken(b:Bk)(a i q:Int)(R:List T5):Prop where
 right:Lots.Right R
 qty:∀c j,qtyOf R c j=qtyOf b.ls c j-(if c=a∧j=i then q else 0)
 key:∀p∈R,∃l∈b.ls,p.1=l.1∧p.2.1=l.2.1∧p.2.2.1=l.2.2.1
theorem taken{b:Bk}{a i q way:Int}(h:CanTake b a i q way):Taken b a i q (takenL b a i q way):=by
 obtain⟨hr,hq,hw,hs⟩:=h
 have q2:q≤sumQ (ownL b.ls a i):=by omega
 have fit:=LotMore.take_fits hr hw hq.1 q2
 have pos:=(Takes.own_pos hr a i).1
 have hn:(restL b.ls a i).length+(takeL way (ownL b.ls a i) q).length≤(restL b.ls a i).length+(takeL way (ownL b.ls a i) q).length:=Nat.le_refl _
 have ne:0<(ownL b.ls a i).length:=by
  rcases Nat.eq_zero_or_pos (ownL b.ls a i).length with e|e
  ·rw[List.eq_nil_of_length_eq_zero e] at q2
   simp[sumQ] at q2
   omega
  ·exact e
 refine⟨fit.right hr hn,fun c j=>?_,fun p hp=>?_⟩
 ·by_cases e:c=a∧j=i
  ·obtain⟨rfl,rfl⟩:=e
   rw[if_pos ⟨rfl,rfl⟩,←(Takes.own_sums c j (takenL b c j q way)).1]
   have:=fit.own hn
   unfold takenL
   rw[this,(LotMore.take_sums pos hw hq.1 q2).1,(Takes.own_sums c j b.ls).1]
  ·rw[if_neg e,←(Takes.own_sums c j (takenL b a i q way)).1]
   have:=fit.other hn e
   unfold takenL
   rw[this,(Takes.own_sums c j b.ls).1]
   omega
 ·rcases(LotMore.merge_mem _ _ _ hn p).1 hp with hp|hp
  ·exact⟨p,(List.mem_filter.1 hp).1,rfl,rfl,rfl⟩
  ·have:=(LotMore.take_subl (way:=way) (q:=q) pos ne).subset (List.mem_map_of_mem (f:=LotMore.k3) hp)
   obtain⟨l,hl,e⟩:=List.mem_map.1 this
   refine⟨l,(List.mem_filter.1 hl).1,?_⟩
   unfold LotMore.k3 at e
   simp only[Prod.mk.injEq] at e
   exact⟨e.1.symm,e.2.1.symm,e.2.2.symm⟩
theorem lot_iff(b:Bk)(P:T5→Prop):(∀k,k<b.ls.length→P (el5 b.ls k))↔∀p∈b.ls,P p:=by
 constructor
 ·intro h p hp
  obtain⟨k,hk1,hk2,rfl⟩:=Lots.mem_take (ps:=b.ls) (k:=b.ls.length) (p:=p) (by rw[List.take_length];exact hp)
  exact h k hk2
 ·exact fun h k hk=>h _ (by simp[el5,List.getD,hk])
theorem open_mem{b:Bk}{a i q cost:Int}{p:T5}(hp:p∈mergeL (b.ls.length+1) b.ls [opened b a i q cost]):p∈b.ls∨p=opened b a i q cost:=by
 rcases(LotMore.merge_mem _ _ _ (by simp) p).1 hp with h|h
 ·exact .inl h
 ·exact .inr (List.mem_singleton.1 h)
theorem open_qty(b:Bk)(a i q cost c j:Int):qtyOf (mergeL (b.ls.length+1) b.ls [opened b a i q cost]) c j=qtyOf b.ls c j+(if c=a∧j=i then q else 0):=by
 rw[merge_qty c j _ _ _ (by simp)]
 show _+((if a=c∧i=j then q else 0)+0)=_
 by_cases e:c=a∧j=i
 ·rw[if_pos e,if_pos ⟨e.1.symm,e.2.symm⟩];omega
 ·rw[if_neg e,if_neg (fun k=>e ⟨k.1.symm,k.2.symm⟩)];omega
theorem ok_carry{b b2 b3:Bk}{ls qs:List T3}{x y i q way k2 pr:Int}(h:Ok b)(P:Posted b ls qs)(hy:kindOf b.ac y=1)(hi:kindOf b.ic i=2)(hs:∀a j,kindOf b.ac a=1→kindOf b.ic j=2→sumK ls a j=(if a=y∧j=i then q else 0) -(if a=x∧j=i then q else 0))(htk:IsTake {b with bs:=qs} x i q way b2 k2 0)(ho:IsOpen b2 y i q pr b3 0):Ok b3:=by
 obtain⟨⟨la,li,lb,ll,lt,lo⟩,hb,hl,ht⟩:=h
 rcases htk with⟨ct,rfl,_,_⟩|⟨_,_,_,e⟩
 rotate_left
 ·omega
 have T:=taken ct
 rcases ho with⟨⟨c1,c2,c3,c4⟩,rfl,_⟩|⟨_,_,e⟩
 rotate_left
 ·omega
 generalize takenL {b with bs:=qs} x i q way=R at *
 have c1:b.lot≠1000000000:=c1
 refine⟨⟨la,li,P.right,c4,lt,?_⟩,P.fit,⟨(lot_iff _ _).2 fun p hp=>?_,fun a j ka kj=>?_⟩,ht⟩
 ·show 0≤b.lot+1∧b.lot+1≤1000000000
  omega
 ·rcases open_mem hp with hp|rfl
  ·obtain⟨l,hll,e1,e2,e3⟩:=T.key p hp
   obtain⟨f1,f2,f3⟩:=(lot_iff b _).1 hl.1 l hll
   refine⟨?_,?_,?_⟩
   ·rw[e1];exact f1
   ·rw[e2];exact f2
   ·show p.2.2.1≤b.lot+1
    omega
  ·exact⟨hy,hi,Int.le_refl _⟩
 ·have e1:=open_qty {b with bs:=qs,ls:=R} y i q pr a j
  have e2:qtyOf R a j=qtyOf b.ls a j-(if a=x∧j=i then q else 0):=T.qty a j
  show qtyOf (mergeL (R.length+1) R [opened {b with bs:=qs,ls:=R} y i q pr]) a j=val qs a j
  rw[e1]
  show qtyOf R a j+_=_
  rw[e2,P.val,hs a j ka kj,hl.2 a j ka kj]
  omega
theorem sumK_pair(a c i q b j:Int):sumK (pairL a c i q) b j=(if b=c∧j=i then q else 0) -(if b=a∧j=i then q else 0):=by
 show(if a=b∧i=j then-q else 0)+((if c=b∧i=j then q else 0)+0)=_
 by_cases e1:b=a∧j=i<;>by_cases e2:b=c∧j=i
 ·rw[if_pos e1,if_pos e2,if_pos ⟨e1.1.symm,e1.2.symm⟩,if_pos ⟨e2.1.symm,e2.2.symm⟩];omega
 ·rw[if_pos e1,if_neg e2,if_pos ⟨e1.1.symm,e1.2.symm⟩,if_neg (fun k=>e2 ⟨k.1.symm,k.2.symm⟩)];omega
 ·rw[if_neg e1,if_pos e2,if_neg (fun k=>e1 ⟨k.1.symm,k.2.symm⟩),if_pos ⟨e2.1.symm,e2.2.symm⟩];omega
 ·rw[if_neg e1,if_neg e2,if_neg (fun k=>e1 ⟨k.1.symm,k.2.symm⟩),if_neg (fun k=>e2 ⟨k.1.symm,k.2.symm⟩)];omega
theorem pair_mem{a c i q:Int}{l:T3}(h:l∈pairL a c i q):(l.1=a∨l.1=c)∧l.2.1=i:=by
 simp only[pairL,List.mem_cons,List.not_mem_nil,or_false] at h
 rcases h with rfl|rfl
 ·exact⟨.inl rfl,rfl⟩
 ·exact⟨.inr rfl,rfl⟩
theorem ok_settle{b b':Bk}{no way g c:Int}(h:Ok b)(k:IsSettle b no way b' g c):Ok b':=by
 rcases k with⟨_,rfl,_⟩|⟨n,hn,⟨_,rfl,_⟩|⟨_,b1,c1,hp,⟨_,rfl,_⟩|⟨rfl,b2,k2,c2,ht,⟨_,rfl,_⟩|⟨rfl,b3,c3,ho,⟨_,rfl,_⟩|⟨rfl,rfl,_⟩⟩⟩⟩⟩
 ·exact h
 ·exact h
 ·exact h
 ·exact h
 ·exact h
 ·obtain⟨f1,f2,f3,f4⟩:=h.2.2.2 n hn.1
  generalize el8 b.ts n=t at *
  obtain⟨t0,x,y,p,q,m,r,s⟩:=t
  have f1:kindOf b.ac x=1:=f1
  have f2:kindOf b.ac y=1:=f2
  have f3:kindOf b.ic p=2:=f3
  have f4:kindOf b.ic m=1:=f4
  obtain⟨qs,rfl,P⟩:=posted h (SCarryP.legs_even _) (fun l hl=>by
   rcases List.mem_append.1 hl with hl|hl
   ·obtain⟨e1|e1,e2⟩:=pair_mem hl
    ·rw[e1,e2];show kindOf b.ac x≠0∧kindOf b.ic m≠0;omega
    ·rw[e1,e2];show kindOf b.ac y≠0∧kindOf b.ic m≠0;omega
   ·obtain⟨e1|e1,e2⟩:=pair_mem hl
    ·rw[e1,e2];show kindOf b.ac y≠0∧kindOf b.ic p≠0;omega
    ·rw[e1,e2];show kindOf b.ac x≠0∧kindOf b.ic p≠0;omega) hp
  refine ok_state (ok_carry h P f1 f3 (fun a j ka kj=>?_) ht ho) n (by omega) (by omega)
  show sumK (pairL x y m r++pairL y x p q) a j=(if a=x∧j=p then q else 0) -(if a=y∧j=p then q else 0)
  rw[PostMore.sumK_append,sumK_pair,sumK_pair]
  have nj:¬j=m:=fun e=>by rw[e,f4] at kj;omega
  rw[if_neg (fun e=>nj e.2),if_neg (fun e=>nj e.2)]
  omega
end Keep
namespace Net
open Bks Trd Keep
open Bals (T3 el3 val sumI ListOf Good Amt upd putL)
open Tup8 (T8 el8)
open Lots (NoOk)
open PostMore (sumK)
def tradeNo:List T8→Int→T8
 |[],_=>(0,0,0,0,0,0,0,0)
 |p::r,no=>if p.1=no then p else tradeNo r no
theorem trade_at:∀{ts:List T8} {no:Int} {k:Nat},IsAt ts no k→tradeNo ts no=el8 ts k
 |[],no,k,h=>absurd h.1 (by simp)
 |p::r,no,0,h=>by
  have e:p.1=no:=h.2.1
  unfold tradeNo
  rw[if_pos e];rfl
 |p::r,no,k+1,h=>by
  have n:p.1≠no:=h.2.2 0 (by omega)
  unfold tradeNo
  rw[if_neg n]
  exact trade_at (ts:=r) (no:=no) (k:=k) ⟨by simpa using h.1,h.2.1,fun j hj=>h.2.2 (j+1) (by omega)⟩
def legsOf(ts:List T8):List Int→List T3
 |[]=>[]
 |no::r=>legsT (tradeNo ts no)++legsOf ts r
theorem legs_append(ts:List T8):∀a b:List Int,legsOf ts (a++b)=legsOf ts a++legsOf ts b
 |[],b=>rfl
 |x::a,b=>by simp[legsOf,legs_append ts a b]
theorem legs_len(ts:List T8):∀a:List Int,(legsOf ts a).length=4*a.length
 |[]=>rfl
 |x::a=>by simp[legsOf,legs_len ts a,legsT,pairL];omega
def AllOpen(ts:List T8)(nos:List Int):Prop:=∀no∈nos,∃k,IsAt ts no k∧(el8 ts k).2.2.2.2.2.2.2=1
def CanNet(b:Bk)(nos:List Int):Prop:=Ok b∧nos.length≤30∧AllOpen b.ts nos∧nos.Nodup∧∀a i,Amt (sumK (legsOf b.ts nos) a i)
def IsNetL(b:Bk)(nos:List Int)(qs:List T3)(ok:Bool):Prop:=
 (CanNet b nos∧ListOf (sumK (legsOf b.ts nos)) qs∧ok=true)∨(¬CanNet b nos∧qs=[]∧ok=false)
theorem sumK_one(L:List T3)(l:T3):sumK (L++[l])=upd (sumK L) l.1 l.2.1 (sumK L l.1 l.2.1+l.2.2):=by
 funext a i
 rw[PostMore.sumK_append]
 show sumK L a i+((if l.1=a∧l.2.1=i then l.2.2 else 0)+0)=_
 unfold upd
 by_cases e:a=l.1∧i=l.2.1
 ·rw[if_pos e,if_pos ⟨e.1.symm,e.2.symm⟩,e.1,e.2];omega
 ·rw[if_neg e,if_neg (fun k=>e ⟨k.1.symm,k.2.symm⟩)];omega
theorem list_put{f:Int→Int→Int}{ps:List T3}(h:ListOf f ps)(a i x:Int)(put:Bool)(hp:(x==0)=put):ListOf (upd f a i x) (putL (a,i,x) ps put):=by
 obtain⟨g,v⟩:=Bals.put_val (a,i,x) ps put h.1 (by subst hp;simp)
 refine⟨g,fun b j=>?_⟩
 rw[v b j]
 have e:val ps=f:=by funext c d;exact h.2 c d
 rw[e]
theorem list_nil(f:Int→Int→Int)(h:∀a i,f a i=0):ListOf f []:=⟨⟨List.Pairwise.nil,fun p hp=>by simp at hp⟩,fun a i=>(h a i).symm⟩
theorem list_leg{L:List T3}{ps:List T3}(h:ListOf (sumK L) ps)(l:T3)(put:Bool)(hp:(val ps l.1 l.2.1+l.2.2==0)=put):ListOf (sumK (L++[l])) (putL (l.1,l.2.1,val ps l.1 l.2.1+l.2.2) ps put):=by
 rw[sumK_one]
 have:=list_put h l.1 l.2.1 (val ps l.1 l.2.1+l.2.2) put hp
 rw[h.2] at this⊢
 exact this
theorem list_amt{f:Int→Int→Int}{ps:List T3}(h:ListOf f ps):(∀p∈ps,Amt p.2.2)↔∀a i,Amt (f a i):=by
 constructor
 ·intro k a i
  by_cases e:f a i=0
  ·rw[e];unfold Amt;omega
  ·have m:=Bals.val_mem ps a i (by rw[h.2];exact e)
   have:=k _ m
   rw[h.2] at this
   exact this
 ·intro k p hp
  have:=(h.1.mem p).1 hp
  rw[←this.2,h.2]
  exact k _ _
theorem legsT_amt{t:T8}(h:TOne t):∀l∈legsT t,Amt l.2.2:=by
 intro l hl
 obtain⟨i,hi,rfl⟩:=Bals.mem_getD hl
 exact((SCarryP.legs_formed h).2 i hi).2.2
theorem legsOf_amt{ts:List T8}(ht:TRight ts):∀{nos:List Int},AllOpen ts nos→∀l∈legsOf ts nos,Amt l.2.2
 |[],_,l,hl=>by simp[legsOf] at hl
 |no::r,h,l,hl=>by
  unfold legsOf at hl
  rcases List.mem_append.1 hl with hl|hl
  ·obtain⟨k,hk,_⟩:=h no (by simp)
   rw[trade_at hk] at hl
   exact legsT_amt (ht.2 k hk.1).1 l hl
  ·exact legsOf_amt ht (fun x hx=>h x (by simp[hx])) l hl
theorem sumK_near{ps:List T3}(h:∀l∈ps,Amt l.2.2)(hl:ps.length≤200)(a i:Int): -200000000000000000≤sumK ps a i∧sumK ps a i≤200000000000000000:=by
 have:=PostMore.sumK_bound a i (fun j hj=>h _ (Bals.getD_mem hj)) ps.length (Nat.le_refl _)
 rw[List.take_length] at this
 omega
def Steps(way:Int):List Int→Bk→Int→Bk→Int→Int→Prop
 |[],b,acc,b',g,c=>b'=b∧g=acc∧c=0
 |no::r,b,acc,b',g,c=>∃b1 g1 c1,IsSettle b no way b1 g1 c1∧((c1≠0∧b'=b∧g=0∧c=c1)∨(c1=0∧Steps way r b1 (acc+g1) b' g c))
def IsNet(b:Bk)(lo hi way:Int)(b':Bk)(legs:List T3)(gains c:Int):Prop:=
 (openT lo hi b.ts=[]∧b'=b∧legs=[]∧gains=0∧c=3)∨
 (openT lo hi b.ts≠[]∧∃b2 g c2,Steps way (openT lo hi b.ts) b 0 b2 g c2∧((c2≠0∧b'=b∧legs=[]∧gains=0∧c=c2)∨
  (c2=0∧∃qs ok,IsNetL b (openT lo hi b.ts) qs ok∧((¬(ok=true∧Amt g)∧b'=b∧legs=[]∧gains=0∧c=8)∨((ok=true∧Amt g)∧b'=b2∧legs=qs∧gains=g∧c=0)))))
theorem gain_amt{b b':Bk}{no way g c:Int}(h:Ok b)(k:IsSettle b no way b' g c):Amt g:=by
 rcases k with⟨_,_,rfl,_⟩|⟨n,hn,⟨_,_,rfl,_⟩|⟨_,b1,c1,hp,⟨_,_,rfl,_⟩|⟨rfl,b2,k2,c2,ht,⟨_,_,rfl,_⟩|⟨rfl,b3,c3,ho,⟨_,_,rfl,_⟩|⟨rfl,_,rfl,_⟩⟩⟩⟩⟩
 all_goals try(unfold Amt;omega)
 have pr:=(h.1.2.2.2.2.1.2 n hn.1).1.2.2.2.2.2.2.2.1
 rcases ht with⟨ct,_,e,_⟩|⟨_,_,_,e⟩
 ·have ps:=Takes.own_pos ct.1 (el8 b.ts n).2.2.1 (el8 b.ts n).2.2.2.1
  have q2:(el8 b.ts n).2.2.2.2.1≤Takes.sumQ (Lots.ownL b1.ls (el8 b.ts n).2.2.1 (el8 b.ts n).2.2.2.1):=by have:=ct.2.2.2;omega
  have bd:=LotMore.takeC_bd (way:=way) ps.1 ct.2.1.1 q2
  rw[←e] at bd
  have:=ps.2.2
  rw[IntKind.wrap_i64]
  ·unfold Amt;omega
  all_goals omega
 ·omega
end Net
end Go.Proofs.YtcjgepkdpkhljaaGreat
