/- Lemmas. -/
import Derived.Test.YtppkkmaoaiopaaaGreatQF13
import Derived.Test.YtppkkmaoaiopaaaGreatQF22
import Derived.Test.YtppkkmaoaiopaaaGreatQF24
open Go.ChangeShapes Go.WideShapes Go.ChangeAt Go.RowKit
set_option linter.unusedVariables false
set_option linter.unusedSimpArgs false
set_option maxRecDepth 100000
set_option maxHeartbeats 32000000
namespace Go.Proofs.YtppkkmaoaiopaaaGreat
namespace SaveH16
open BMem Bks BHelp BkEq
open IBalsFit (one_more)
open ILists (boxed)
open SSave16 (Sv)
open Bx16
theorem szBG(w:World)(y:Ix)(left:Int)(h0:0≤left)(h1:left≤1048576)(hf:Fits y.b):
  Calls Tryz.prog 12 #[.agg #[.slice y.aa y.b.ac.length y.ca,.slice y.ai y.b.ic.length y.ci,.slice y.ab y.b.bs.length y.cb,.slice y.al y.b.ls.length y.cl,.slice y.ats y.b.ts.length y.ct,.int .i64 y.b.lot],.int .i64 left] w fun e w'=>∃r,e= .returned (.int .i64 r)∧(r= -1∨(0≤r∧Small y.b))∧Below w.heap.size w w':=by
 obtain⟨fa,fi,fb,fl,ft⟩:=hf
 have B0:=zh ((Below.refl w.heap.size w).alloc (Nat.le_refl _) (.cells #[.slice y.aa y.b.ac.length y.ca,.slice y.ai y.b.ic.length y.ci,.slice y.ab y.b.bs.length y.cb,.slice y.al y.b.ls.length y.cl,.slice y.ats y.b.ts.length y.ct,.int .i64 y.b.lot] 31))
 go_enter Tryz.func12,Tryz.ntmps12
 go_wp2_with fail
 by_cases q0:(y.b.ac.length:Int)≤left
 rotate_left
 ·refine(AccountMark.sz_no _ _ _ left _ q0 (by omega) (by omega) fa).mono ?_
  rintro e u ⟨rfl,rfl⟩
  go_wp2
  go_ret
  exact⟨-1,rfl,.inl rfl,zu B0⟩
 refine(AccountMark.sz_yes _ _ _ left _ q0 (by omega)).mono ?_
 rintro e u0 ⟨rfl,rfl⟩
 obtain⟨m0,hm0⟩:∃m:Int,Hid (m=left-(y.b.ac.length:Int)):=⟨_,rfl⟩
 rw[←zu hm0]
 have M0:0≤m0∧m0≤1048576:=by have:=zu hm0;omega
 have Q0:=zh q0
 clear q0
 go_wp2_with fail
 by_cases q1:(y.b.ic.length:Int)≤m0
 rotate_left
 ·refine(InstrMark.sz_no _ _ _ m0 _ q1 (by omega) (by omega) fi).mono ?_
  rintro e u ⟨rfl,rfl⟩
  go_wp2
  go_ret
  exact⟨-1,rfl,.inl rfl,zu B0⟩
 refine(InstrMark.sz_yes _ _ _ m0 _ q1 (by omega)).mono ?_
 rintro e u1 ⟨rfl,rfl⟩
 obtain⟨m1,hm1⟩:∃m:Int,Hid (m=m0-(y.b.ic.length:Int)):=⟨_,rfl⟩
 rw[←zu hm1]
 have M1:0≤m1∧m1≤1048576:=by have:=zu hm1;omega
 have Q1:=zh q1
 clear q1
 go_wp2_with fail
 by_cases q2:(y.b.bs.length:Int)≤m1
 rotate_left
 ·refine(BalHelp.sz_no _ _ _ m1 _ q2 (by omega) (by omega) fb).mono ?_
  rintro e u ⟨rfl,rfl⟩
  go_wp2
  go_ret
  exact⟨-1,rfl,.inl rfl,zu B0⟩
 refine(BalHelp.sz_yes _ _ _ m1 _ q2 (by omega)).mono ?_
 rintro e u2 ⟨rfl,rfl⟩
 obtain⟨m2,hm2⟩:∃m:Int,Hid (m=m1-(y.b.bs.length:Int)):=⟨_,rfl⟩
 rw[←zu hm2]
 have M2:0≤m2∧m2≤1048576:=by have:=zu hm2;omega
 have Q2:=zh q2
 clear q2
 go_wp2_with fail
 by_cases q3:(y.b.ls.length:Int)≤m2
 rotate_left
 ·refine(LotHelp.sz_no _ _ _ m2 _ q3 (by omega) (by omega) fl).mono ?_
  rintro e u ⟨rfl,rfl⟩
  go_wp2
  go_ret
  exact⟨-1,rfl,.inl rfl,zu B0⟩
 refine(LotHelp.sz_yes _ _ _ m2 _ q3 (by omega)).mono ?_
 rintro e u3 ⟨rfl,rfl⟩
 obtain⟨m3,hm3⟩:∃m:Int,Hid (m=m2-(y.b.ls.length:Int)):=⟨_,rfl⟩
 rw[←zu hm3]
 have M3:0≤m3∧m3≤1048576:=by have:=zu hm3;omega
 have Q3:=zh q3
 clear q3
 go_wp2_with fail
 by_cases q4:(y.b.ts.length:Int)≤m3
 rotate_left
 ·refine(TradeHelp.sz_no _ _ _ m3 _ q4 (by omega) (by omega) ft).mono ?_
  rintro e u ⟨rfl,rfl⟩
  go_wp2
  go_ret
  exact⟨-1,rfl,.inl rfl,zu B0⟩
 refine(TradeHelp.sz_yes _ _ _ m3 _ q4 (by omega)).mono ?_
 rintro e u4 ⟨rfl,rfl⟩
 obtain⟨m4,hm4⟩:∃m:Int,Hid (m=m3-(y.b.ts.length:Int)):=⟨_,rfl⟩
 rw[←zu hm4]
 have M4:0≤m4∧m4≤1048576:=by have:=zu hm4;omega
 have Q4:=zh q4
 clear q4
 have SM:=zh (show Small y.b from by
  have a0:=zu Q0
  have a1:=zu Q1
  have a2:=zu Q2
  have a3:=zu Q3
  have a4:=zu Q4
  exact⟨by omega,by omega,by omega,by omega,by omega⟩)
 go_wp2
 go_ret
 exact⟨m4,rfl,.inr ⟨M4.1,zu SM⟩,zu B0⟩
def g1(s:Int)(b:Bk):Int:=s+2*(b.ac.length:Int)
def g2(s:Int)(b:Bk):Int:=g1 s b+2*(b.ic.length:Int)
def g3(s:Int)(b:Bk):Int:=g2 s b+3*(b.bs.length:Int)
def g4(s:Int)(b:Bk):Int:=g3 s b+5*(b.ls.length:Int)
def g5(s:Int)(b:Bk):Int:=g4 s b+8*(b.ts.length:Int)
theorem g_bd{s:Int}{b:Bk}(s0:0≤s)(s1:s≤10000000)(h:Small b):(0≤g1 s b∧g1 s b≤100000000)∧(0≤g2 s b∧g2 s b≤100000000)∧(0≤g3 s b∧g3 s b≤100000000)∧(0≤g4 s b∧g4 s b≤100000000)∧(0≤g5 s b∧g5 s b≤100000000):=by
 obtain⟨h1,h2,h3,h4,h5⟩:=h
 unfold g5 g4 g3 g2 g1
 omega
end SaveH16
namespace LawW16
open Fil14 OpensF14 DiskH14 DkH14 SDk14 SOk14 SRd14 SCom14 Law14 SAppend14 SSync14 SMove14 SStep16 SWrite16 SaveH16
open BMem (Bx Rd Ow)
open Bks (Bk)
open BHelp (Ix RdI)
open SSave16 (Sv saveD)
open SClear15 (clearD stays)
theorem len_less{ps:List TF}(h:ps.length≤1048576):(lessD ps).length≤1048576:=by
 unfold lessD
 split
 ·exact Nat.le_trans (less_len _ _ _) h
 ·exact h
theorem len_clear{room:Int}{ps:List TF}(ks:List Int)(h:ps.length≤1048576):(clearD room ps ks).2.length≤1048576:=by
 unfold SClear15.clearD
 split
 ·have:=List.length_filter_le (stays ks) ps
  show(ps.filter (stays ks)).length≤_
  omega
 ·simp
theorem len_step{room:Int}{ps:List TF}(tx:ByteArray×Bool)(k:Int)(h:ps.length≤1048576):(stepD room ps tx k).1.2.length≤1048576:=by
 unfold stepD
 split
 ·unfold stepsD
  split
  ·unfold firstD
   split
   ·exact LenAppend14.len_append 20 tx.1 (len_less h)
   ·exact h
  ·split
   ·exact LenSync14.len_sync 20 h
   ·split
    ·exact LenMove14.len_move 20 21 h
    ·exact len_clear [] h
 ·simp
theorem kd_low{W W':World}{g:Nat}{x:Dx}{B:Nat}(h:Kd W g x)(b:Below B W W')(hg:g<B):Kd W' g x:=
 ⟨(b.cell (p:=⟨g,0,none⟩) hg).trans h.c0,(b.cell (p:=⟨g,1,none⟩) hg).trans h.c1,Nat.lt_of_lt_of_le h.lt b.size⟩
theorem boxed_in{V:World}{base g:Nat}{y:Dx}{v0 v1:Value}(h:Bc V base g v0 v1):V.grownBy ((V.setCell ⟨g,0,none⟩ (.int .i64 y.room)).setCell ⟨g,1,none⟩ (.slice y.a y.ps.length y.c)) (some g)∧Kd ((V.setCell ⟨g,0,none⟩ (.int .i64 y.room)).setCell ⟨g,1,none⟩ (.slice y.a y.ps.length y.c)) g y:=by
 have s0:=h.set0 (.int .i64 y.room)
 have s1:=SLess14.bc_set1 s0.1 (.slice y.a y.ps.length y.c)
 exact⟨App14.grow_grow s0.2 s1.2,s1.1.c0,s1.1.c1,s1.1.lt.2⟩
theorem reg_rest{α:Type}{P:Program}{id:Nat}{ops:Array Oper}{K:Act→World→Prop}{Q':Exit→Act→World→Prop}{a:Act}{w:World}(f:Act→α→Act)(Fc:α→World→Prop)(h:∀x U,Fc x U→K (f a x) U)(hw:(Code.region id ops true).wp P (Exit.then (fun a' w'=>∃x,a'=f a x∧Fc x w') Q') a w):(Code.region id ops true).wp P (Exit.then K Q') a w:=
 Code.wp_mono (fun e a' w' hq=>by
  cases e
  case normal=>
   obtain⟨x,rfl,hx⟩:=hq
   exact h x w' hx
  all_goals exact hq) hw
end LawW16
namespace EFin17
open Fil14 DkH14 SDk14 EBx17 BMemV13 VB13
open BMem (Bx Rd Ow)
open Bks (Bk)
open BHelp (Ix)
open Bx16 (grow_grow grow_low)
theorem row_kept2{w w':World}{base g:Nat}{e:TypeId}{m:Nat}{v:Value}{l:Nat}{vs:List Value}(o:w.ownsRow base e m v l vs)(k:w.grownBy w' (some g))(n:g<base):w'.ownsRow base e m v l vs:=by
 refine⟨o.1,?_⟩
 rcases o.2 with h1|⟨g',c,cur,h1,h2,h3,h4⟩
 ·exact .inl h1
 ·have lg:=World.ownsRow.lt o g' (by rw[h1];rfl)
  exact .inr ⟨g',c,cur,h1,h2,(k.block g' lg.2 (by simp;omega)).trans h3,h4⟩
theorem row_base2{w:World}{base base':Nat}{e:TypeId}{m:Nat}{v:Value}{l:Nat}{vs:List Value}(o:w.ownsRow base e m v l vs)(n:base'≤base):w.ownsRow base' e m v l vs:=by
 refine⟨o.1,?_⟩
 rcases o.2 with h1|⟨g',c,cur,h1,h2,h3⟩
 ·exact .inl h1
 ·exact .inr ⟨g',c,cur,h1,Nat.le_trans n h2,h3⟩
theorem ownV_kept{w w':World}{base:Nat}{x:Ix}{g:Nat}(h:OwV w base x)(k:w.grownBy w' (some g))(n:g<base):OwV w' base x:=
 ⟨row_kept2 h.oa k n,row_kept2 h.oi k n,row_kept2 h.ob k n,row_kept2 h.ol k n,row_kept2 h.ot k n⟩
theorem ownV_base{w:World}{base base':Nat}{x:Ix}(h:OwV w base x)(n:base'≤base):OwV w base' x:=
 ⟨row_base2 h.oa n,row_base2 h.oi n,row_base2 h.ob n,row_base2 h.ol n,row_base2 h.ot n⟩
theorem ownD_kept{w w':World}{base g:Nat}{x:Dx}(o:OwD w base x)(k:w.grownBy w' (some g))(n:(Value.slice x.a x.ps.length x.c).ownBlock≠some g):OwD w' base x:=by
 refine⟨o.1,?_⟩
 rcases o.2 with h1|⟨g',c,cur,h1,h2,h3,h4⟩
 ·exact .inl h1
 ·have lg:=World.ownsRow.lt o g' (by rw[h1];rfl)
  exact .inr ⟨g',c,cur,h1,h2,(k.block g' lg.2 (by intro e;rw[h1] at n;exact n (by rw[←e];rfl))).trans h3,h4⟩
def ixB(z:Bx):Ix:=⟨some ⟨z.ga,0,none⟩,z.ca,some ⟨z.gi,0,none⟩,z.ci,some ⟨z.gb,0,none⟩,z.cb,some ⟨z.gl,0,none⟩,z.cl,some ⟨z.gt,0,none⟩,z.ct,z.b⟩
def noI:Ix:=⟨none,0,none,0,none,0,none,0,none,0,⟨[],[],[],[],[],0⟩⟩
theorem ownV_no(w:World)(base:Nat):OwV w base noI:=⟨⟨rfl,.inl ⟨rfl,rfl⟩⟩,⟨rfl,.inl ⟨rfl,rfl⟩⟩,⟨rfl,.inl ⟨rfl,rfl⟩⟩,⟨rfl,.inl ⟨rfl,rfl⟩⟩,⟨rfl,.inl ⟨rfl,rfl⟩⟩⟩
def noD:Dx:=⟨0,none,0,[]⟩
theorem ownD_no(w:World)(base:Nat):OwD w base noD:=⟨rfl,.inl ⟨rfl,rfl⟩⟩
abbrev PE:=Bool×(Int×List TF)×Bk×Int×Int
def noE:PE:=(false,(0,[]),⟨[],[],[],[],[],0⟩,0,0)
def ToldE(r:PE×Int)(w:World)(e:Ending)(w':World):Prop:=∃(x:Dx) (y:Ix),(x.room,x.ps)=r.1.2.1∧y.b=r.1.2.2.1∧e= .returned (.tuple #[.agg #[.bool r.1.1,.int .i64 x.room,.slice x.a x.ps.length x.c,.slice y.aa y.b.ac.length y.ca,.slice y.ai y.b.ic.length y.ci,.slice y.ab y.b.bs.length y.cb,.slice y.al y.b.ls.length y.cl,.slice y.ats y.b.ts.length y.ct,.int .i64 y.b.lot,.int .i64 r.1.2.2.2.1,.int .i64 r.1.2.2.2.2],.int .i64 r.2])∧OwD w' w.heap.size x∧OwV w' w.heap.size y∧Below w.heap.size w w'
def ToldE1(r:PE)(w:World)(e:Ending)(w':World):Prop:=∃(x:Dx) (y:Ix),(x.room,x.ps)=r.2.1∧y.b=r.2.2.1∧e= .returned (.agg #[.bool r.1,.int .i64 x.room,.slice x.a x.ps.length x.c,.slice y.aa y.b.ac.length y.ca,.slice y.ai y.b.ic.length y.ci,.slice y.ab y.b.bs.length y.cb,.slice y.al y.b.ls.length y.cl,.slice y.ats y.b.ts.length y.ct,.int .i64 y.b.lot,.int .i64 r.2.2.2.1,.int .i64 r.2.2.2.2])∧OwD w' w.heap.size x∧OwV w' w.heap.size y∧Below w.heap.size w w'
theorem ended17{w u:World}{base0 g:Nat}{v0 v1 v2 v3 v4 v5 v6 v7 v8 v9 v10:Value}{x:Dx}{y:Ix}(up:Bool)(sg ct:Int)(b:Below w.heap.size w u)(rb:Bx11 u w.heap.size g v0 v1 v2 v3 v4 v5 v6 v7 v8 v9 v10)(ox:OwD u base0 x)(oy:OwV u base0 y)(hb:g<base0):
  Below w.heap.size w ((((((((((((u).setCell ⟨g,0,none⟩ (.bool up)).setCell ⟨g,1,none⟩ (.int .i64 x.room)).setCell ⟨g,2,none⟩ (.slice x.a x.ps.length x.c)).setCell ⟨g,3,none⟩ (.slice y.aa y.b.ac.length y.ca)).setCell ⟨g,4,none⟩ (.slice y.ai y.b.ic.length y.ci)).setCell ⟨g,5,none⟩ (.slice y.ab y.b.bs.length y.cb)).setCell ⟨g,6,none⟩ (.slice y.al y.b.ls.length y.cl)).setCell ⟨g,7,none⟩ (.slice y.ats y.b.ts.length y.ct)).setCell ⟨g,8,none⟩ (.int .i64 y.b.lot)).setCell ⟨g,9,none⟩ (.int .i64 sg)).setCell ⟨g,10,none⟩ (.int .i64 ct))∧Bx11 ((((((((((((u).setCell ⟨g,0,none⟩ (.bool up)).setCell ⟨g,1,none⟩ (.int .i64 x.room)).setCell ⟨g,2,none⟩ (.slice x.a x.ps.length x.c)).setCell ⟨g,3,none⟩ (.slice y.aa y.b.ac.length y.ca)).setCell ⟨g,4,none⟩ (.slice y.ai y.b.ic.length y.ci)).setCell ⟨g,5,none⟩ (.slice y.ab y.b.bs.length y.cb)).setCell ⟨g,6,none⟩ (.slice y.al y.b.ls.length y.cl)).setCell ⟨g,7,none⟩ (.slice y.ats y.b.ts.length y.ct)).setCell ⟨g,8,none⟩ (.int .i64 y.b.lot)).setCell ⟨g,9,none⟩ (.int .i64 sg)).setCell ⟨g,10,none⟩ (.int .i64 ct)) w.heap.size g (.bool up) (.int .i64 x.room) (.slice x.a x.ps.length x.c) (.slice y.aa y.b.ac.length y.ca) (.slice y.ai y.b.ic.length y.ci) (.slice y.ab y.b.bs.length y.cb) (.slice y.al y.b.ls.length y.cl) (.slice y.ats y.b.ts.length y.ct) (.int .i64 y.b.lot) (.int .i64 sg) (.int .i64 ct)∧OwD ((((((((((((u).setCell ⟨g,0,none⟩ (.bool up)).setCell ⟨g,1,none⟩ (.int .i64 x.room)).setCell ⟨g,2,none⟩ (.slice x.a x.ps.length x.c)).setCell ⟨g,3,none⟩ (.slice y.aa y.b.ac.length y.ca)).setCell ⟨g,4,none⟩ (.slice y.ai y.b.ic.length y.ci)).setCell ⟨g,5,none⟩ (.slice y.ab y.b.bs.length y.cb)).setCell ⟨g,6,none⟩ (.slice y.al y.b.ls.length y.cl)).setCell ⟨g,7,none⟩ (.slice y.ats y.b.ts.length y.ct)).setCell ⟨g,8,none⟩ (.int .i64 y.b.lot)).setCell ⟨g,9,none⟩ (.int .i64 sg)).setCell ⟨g,10,none⟩ (.int .i64 ct)) w.heap.size x∧OwV ((((((((((((u).setCell ⟨g,0,none⟩ (.bool up)).setCell ⟨g,1,none⟩ (.int .i64 x.room)).setCell ⟨g,2,none⟩ (.slice x.a x.ps.length x.c)).setCell ⟨g,3,none⟩ (.slice y.aa y.b.ac.length y.ca)).setCell ⟨g,4,none⟩ (.slice y.ai y.b.ic.length y.ci)).setCell ⟨g,5,none⟩ (.slice y.ab y.b.bs.length y.cb)).setCell ⟨g,6,none⟩ (.slice y.al y.b.ls.length y.cl)).setCell ⟨g,7,none⟩ (.slice y.ats y.b.ts.length y.ct)).setCell ⟨g,8,none⟩ (.int .i64 y.b.lot)).setCell ⟨g,9,none⟩ (.int .i64 sg)).setCell ⟨g,10,none⟩ (.int .i64 ct)) w.heap.size y∧u.grownBy ((((((((((((u).setCell ⟨g,0,none⟩ (.bool up)).setCell ⟨g,1,none⟩ (.int .i64 x.room)).setCell ⟨g,2,none⟩ (.slice x.a x.ps.length x.c)).setCell ⟨g,3,none⟩ (.slice y.aa y.b.ac.length y.ca)).setCell ⟨g,4,none⟩ (.slice y.ai y.b.ic.length y.ci)).setCell ⟨g,5,none⟩ (.slice y.ab y.b.bs.length y.cb)).setCell ⟨g,6,none⟩ (.slice y.al y.b.ls.length y.cl)).setCell ⟨g,7,none⟩ (.slice y.ats y.b.ts.length y.ct)).setCell ⟨g,8,none⟩ (.int .i64 y.b.lot)).setCell ⟨g,9,none⟩ (.int .i64 sg)).setCell ⟨g,10,none⟩ (.int .i64 ct)) (some g):=by
 have t:=rb.all (.bool up) (.int .i64 x.room) (.slice x.a x.ps.length x.c) (.slice y.aa y.b.ac.length y.ca) (.slice y.ai y.b.ic.length y.ci) (.slice y.ab y.b.bs.length y.cb) (.slice y.al y.b.ls.length y.cl) (.slice y.ats y.b.ts.length y.ct) (.int .i64 y.b.lot) (.int .i64 sg) (.int .i64 ct)
 have lt:=rb.lt
 exact⟨grow_low b t.2 ⟨by omega,b.size⟩,t.1,row_base2 (row_kept2 ox t.2 hb) (by omega),ownV_base (ownV_kept oy t.2 hb) (by omega),t.2⟩
end EFin17
namespace EBk17
open BMem Bks BHelp BkEq BMemV13 VB13 SaveH16
open SRead13L (row_step)
open IBalsFit (one_more)
structure OwMVS(s:Int)(w:World)(base:Nat)(x:Ix):Prop where
 oa:w.ownsRow base 129 2 (.slice x.aa x.b.ac.length x.ca) x.b.ac.length (Pairs.flat (AccountMark.marks s x.b.ac.length))
 oi:w.ownsRow base 130 2 (.slice x.ai x.b.ic.length x.ci) x.b.ic.length (Pairs.flat (InstrMark.marks (g1 s x.b) x.b.ic.length))
 ob:w.ownsRow base 132 3 (.slice x.ab x.b.bs.length x.cb) x.b.bs.length (Triples.flat3 (BalHelp.marks (g2 s x.b) x.b.bs.length))
 ol:w.ownsRow base 134 5 (.slice x.al x.b.ls.length x.cl) x.b.ls.length (Tup5.flat5 (LotHelp.marks (g3 s x.b) x.b.ls.length))
 ot:w.ownsRow base 136 8 (.slice x.ats x.b.ts.length x.ct) x.b.ts.length (Tup8.flat8 (TradeHelp.marks (g4 s x.b) x.b.ts.length))
theorem OwMVS.step{s:Int}{w w':World}{base:Nat}{x:Ix}(h:OwMVS s w base x)(k:Below w.heap.size w w'):OwMVS s w' base x:=⟨row_step h.oa k,row_step h.oi k,row_step h.ob k,row_step h.ol k,row_step h.ot k⟩
theorem markBVG(w:World)(base:Nat)(x:Ix)(s:Int)(s0:0≤s)(s1:s≤10000000)(h:OwV w base x)(hb:base≤w.heap.size)(hs:Small x.b):
  Calls Tryz.prog 26 #[.agg #[.slice x.aa x.b.ac.length x.ca,.slice x.ai x.b.ic.length x.ci,.slice x.ab x.b.bs.length x.cb,.slice x.al x.b.ls.length x.cl,.slice x.ats x.b.ts.length x.ct,.int .i64 x.b.lot],.int .i64 s] w fun e w'=>e= .returned (.int .i64 (g5 s x.b))∧OwMVS s w' base x∧TurnV x w w':=by
 obtain⟨⟨l1,u1⟩,⟨l2,u2⟩,⟨l3,u3⟩,⟨l4,u4⟩,⟨l5,u5⟩⟩:=g_bd s0 s1 hs
 obtain⟨na,ni,nb,nl,nt⟩:=hs
 have za:=zh (show some w.heap.size≠(Value.slice x.aa x.b.ac.length x.ca).ownBlock from fun e=>by have:=(World.ownsRow.lt h.oa _ e.symm).2;omega)
 have Oa:=zh (row_step h.oa (one_more w (.cells #[.slice x.aa x.b.ac.length x.ca,.slice x.ai x.b.ic.length x.ci,.slice x.ab x.b.bs.length x.cb,.slice x.al x.b.ls.length x.cl,.slice x.ats x.b.ts.length x.ct,.int .i64 x.b.lot] 44)))
 have zi:=zh (show some w.heap.size≠(Value.slice x.ai x.b.ic.length x.ci).ownBlock from fun e=>by have:=(World.ownsRow.lt h.oi _ e.symm).2;omega)
 have Oi:=zh (row_step h.oi (one_more w (.cells #[.slice x.aa x.b.ac.length x.ca,.slice x.ai x.b.ic.length x.ci,.slice x.ab x.b.bs.length x.cb,.slice x.al x.b.ls.length x.cl,.slice x.ats x.b.ts.length x.ct,.int .i64 x.b.lot] 44)))
 have zb:=zh (show some w.heap.size≠(Value.slice x.ab x.b.bs.length x.cb).ownBlock from fun e=>by have:=(World.ownsRow.lt h.ob _ e.symm).2;omega)
 have Ob:=zh (row_step h.ob (one_more w (.cells #[.slice x.aa x.b.ac.length x.ca,.slice x.ai x.b.ic.length x.ci,.slice x.ab x.b.bs.length x.cb,.slice x.al x.b.ls.length x.cl,.slice x.ats x.b.ts.length x.ct,.int .i64 x.b.lot] 44)))
 have zl:=zh (show some w.heap.size≠(Value.slice x.al x.b.ls.length x.cl).ownBlock from fun e=>by have:=(World.ownsRow.lt h.ol _ e.symm).2;omega)
 have Ol:=zh (row_step h.ol (one_more w (.cells #[.slice x.aa x.b.ac.length x.ca,.slice x.ai x.b.ic.length x.ci,.slice x.ab x.b.bs.length x.cb,.slice x.al x.b.ls.length x.cl,.slice x.ats x.b.ts.length x.ct,.int .i64 x.b.lot] 44)))
 have zt:=zh (show some w.heap.size≠(Value.slice x.ats x.b.ts.length x.ct).ownBlock from fun e=>by have:=(World.ownsRow.lt h.ot _ e.symm).2;omega)
 have Ot:=zh (row_step h.ot (one_more w (.cells #[.slice x.aa x.b.ac.length x.ca,.slice x.ai x.b.ic.length x.ci,.slice x.ab x.b.bs.length x.cb,.slice x.al x.b.ls.length x.cl,.slice x.ats x.b.ts.length x.ct,.int .i64 x.b.lot] 44)))
 have B0:=zh (show TurnV x w (w.alloc (.cells #[.slice x.aa x.b.ac.length x.ca,.slice x.ai x.b.ic.length x.ci,.slice x.ab x.b.bs.length x.cb,.slice x.al x.b.ls.length x.cl,.slice x.ats x.b.ts.length x.ct,.int .i64 x.b.lot] 44)) from TurnV.of (one_more _ _))
 have C0:=zh (boxedV w x 44)
 clear h
 go_enter Tryz.func26,Tryz.ntmps26
 go_wp2_with fail
 refine(markAccount _ base _ x.ca x.aa s x.b.ac na (by omega) (by omega) (zu Oa)).mono ?_
 rintro e w1 ⟨he,o,gr⟩
 replace he:e= .returned (.int .i64 (g1 s x.b)):=he
 subst he
 have B1:=zh ((zu B0).grown gr (.inl rfl))
 have C1:=zh (show ClV w1 w.heap.size x from⟨gr.cell (zu C0).c0 (zu za),gr.cell (zu C0).c1 (zu za),gr.cell (zu C0).c2 (zu za),gr.cell (zu C0).c3 (zu za),gr.cell (zu C0).c4 (zu za),gr.cell (zu C0).c5 (zu za)⟩)
 have Ni:=zh (other (zu Oi) (zu Oa) (by decide) gr)
 have Nb:=zh (other (zu Ob) (zu Oa) (by decide) gr)
 have Nl:=zh (other (zu Ol) (zu Oa) (by decide) gr)
 have Nt:=zh (other (zu Ot) (zu Oa) (by decide) gr)
 replace Oa:=zh o
 replace Oi:=Ni
 clear Ni
 replace Ob:=Nb
 clear Nb
 replace Ol:=Nl
 clear Nl
 replace Ot:=Nt
 clear Nt
 clear o gr
 have p1:=(zu C1).c1
 go_wp2_with fail
 refine(markInstr _ base _ x.ci x.ai (g1 s x.b) x.b.ic ni (by omega) (by omega) (zu Oi)).mono ?_
 rintro e w2 ⟨he,o,gr⟩
 replace he:e= .returned (.int .i64 (g2 s x.b)):=he
 subst he
 have B2:=zh ((zu B1).grown gr (.inr (.inl rfl)))
 have C2:=zh (show ClV w2 w.heap.size x from⟨gr.cell (zu C1).c0 (zu zi),gr.cell (zu C1).c1 (zu zi),gr.cell (zu C1).c2 (zu zi),gr.cell (zu C1).c3 (zu zi),gr.cell (zu C1).c4 (zu zi),gr.cell (zu C1).c5 (zu zi)⟩)
 have Na:=zh (other (zu Oa) (zu Oi) (by decide) gr)
 have Nb:=zh (other (zu Ob) (zu Oi) (by decide) gr)
 have Nl:=zh (other (zu Ol) (zu Oi) (by decide) gr)
 have Nt:=zh (other (zu Ot) (zu Oi) (by decide) gr)
 replace Oi:=zh o
 replace Oa:=Na
 clear Na
 replace Ob:=Nb
 clear Nb
 replace Ol:=Nl
 clear Nl
 replace Ot:=Nt
 clear Nt
 clear o gr
 have p2:=(zu C2).c2
 go_wp2_with fail
 refine(markBal _ base _ x.cb x.ab (g2 s x.b) x.b.bs nb (by omega) (by omega) (zu Ob)).mono ?_
 rintro e w3 ⟨he,o,gr⟩
 replace he:e= .returned (.int .i64 (g3 s x.b)):=he
 subst he
 have B3:=zh ((zu B2).grown gr (.inr (.inr (.inl rfl))))
 have C3:=zh (show ClV w3 w.heap.size x from⟨gr.cell (zu C2).c0 (zu zb),gr.cell (zu C2).c1 (zu zb),gr.cell (zu C2).c2 (zu zb),gr.cell (zu C2).c3 (zu zb),gr.cell (zu C2).c4 (zu zb),gr.cell (zu C2).c5 (zu zb)⟩)
 have Na:=zh (other (zu Oa) (zu Ob) (by decide) gr)
 have Ni:=zh (other (zu Oi) (zu Ob) (by decide) gr)
 have Nl:=zh (other (zu Ol) (zu Ob) (by decide) gr)
 have Nt:=zh (other (zu Ot) (zu Ob) (by decide) gr)
 replace Ob:=zh o
 replace Oa:=Na
 clear Na
 replace Oi:=Ni
 clear Ni
 replace Ol:=Nl
 clear Nl
 replace Ot:=Nt
 clear Nt
 clear o gr
 have p3:=(zu C3).c3
 go_wp2_with fail
 refine(markLot _ base _ x.cl x.al (g3 s x.b) x.b.ls nl (by omega) (by omega) (zu Ol)).mono ?_
 rintro e w4 ⟨he,o,gr⟩
 replace he:e= .returned (.int .i64 (g4 s x.b)):=he
 subst he
 have B4:=zh ((zu B3).grown gr (.inr (.inr (.inr (.inl rfl)))))
 have C4:=zh (show ClV w4 w.heap.size x from⟨gr.cell (zu C3).c0 (zu zl),gr.cell (zu C3).c1 (zu zl),gr.cell (zu C3).c2 (zu zl),gr.cell (zu C3).c3 (zu zl),gr.cell (zu C3).c4 (zu zl),gr.cell (zu C3).c5 (zu zl)⟩)
 have Na:=zh (other (zu Oa) (zu Ol) (by decide) gr)
 have Ni:=zh (other (zu Oi) (zu Ol) (by decide) gr)
 have Nb:=zh (other (zu Ob) (zu Ol) (by decide) gr)
 have Nt:=zh (other (zu Ot) (zu Ol) (by decide) gr)
 replace Ol:=zh o
 replace Oa:=Na
 clear Na
 replace Oi:=Ni
 clear Ni
 replace Ob:=Nb
 clear Nb
 replace Ot:=Nt
 clear Nt
 clear o gr
 have p4:=(zu C4).c4
 go_wp2_with fail
 refine(markTrade _ base _ x.ct x.ats (g4 s x.b) x.b.ts nt (by omega) (by omega) (zu Ot)).mono ?_
 rintro e w5 ⟨he,o,gr⟩
 replace he:e= .returned (.int .i64 (g5 s x.b)):=he
 subst he
 have B5:=zh ((zu B4).grown gr (.inr (.inr (.inr (.inr rfl)))))
 have C5:=zh (show ClV w5 w.heap.size x from⟨gr.cell (zu C4).c0 (zu zt),gr.cell (zu C4).c1 (zu zt),gr.cell (zu C4).c2 (zu zt),gr.cell (zu C4).c3 (zu zt),gr.cell (zu C4).c4 (zu zt),gr.cell (zu C4).c5 (zu zt)⟩)
 have Na:=zh (other (zu Oa) (zu Ot) (by decide) gr)
 have Ni:=zh (other (zu Oi) (zu Ot) (by decide) gr)
 have Nb:=zh (other (zu Ob) (zu Ot) (by decide) gr)
 have Nl:=zh (other (zu Ol) (zu Ot) (by decide) gr)
 replace Ot:=zh o
 replace Oa:=Na
 clear Na
 replace Oi:=Ni
 clear Ni
 replace Ob:=Nb
 clear Nb
 replace Ol:=Nl
 clear Nl
 clear o gr
 go_wp2
 go_ret
 exact⟨rfl,⟨zu Oa,zu Oi,zu Ob,zu Ol,zu Ot⟩,zu B5⟩
theorem heldBVG(w:World)(base:Nat)(x:Ix)(s:Int)(s0:0≤s)(s1:s≤10000000)(h:OwMVS s w base x)(hs:Small x.b):
  Calls Tryz.prog 28 #[.agg #[.slice x.aa x.b.ac.length x.ca,.slice x.ai x.b.ic.length x.ci,.slice x.ab x.b.bs.length x.cb,.slice x.al x.b.ls.length x.cl,.slice x.ats x.b.ts.length x.ct,.int .i64 x.b.lot],.int .i64 s] w fun e w'=>e= .returned (.int .i64 (g5 s x.b))∧Below w.heap.size w w':=by
 obtain⟨⟨l1,u1⟩,⟨l2,u2⟩,⟨l3,u3⟩,⟨l4,u4⟩,⟨l5,u5⟩⟩:=g_bd s0 s1 hs
 obtain⟨na,ni,nb,nl,nt⟩:=hs
 have B0:=zh (one_more w (.cells #[.slice x.aa x.b.ac.length x.ca,.slice x.ai x.b.ic.length x.ci,.slice x.ab x.b.bs.length x.cb,.slice x.al x.b.ls.length x.cl,.slice x.ats x.b.ts.length x.ct,.int .i64 x.b.lot] 44))
 have H0:=zh (h.step (one_more w (.cells #[.slice x.aa x.b.ac.length x.ca,.slice x.ai x.b.ic.length x.ci,.slice x.ab x.b.bs.length x.cb,.slice x.al x.b.ls.length x.cl,.slice x.ats x.b.ts.length x.ct,.int .i64 x.b.lot] 44)))
 have t1:¬g1 s x.b<0:=by omega
 have t2:¬g2 s x.b<0:=by omega
 have t3:¬g3 s x.b<0:=by omega
 have t4:¬g4 s x.b<0:=by omega
 have t5:¬g5 s x.b<0:=by omega
 clear h
 go_enter Tryz.func28,Tryz.ntmps28
 go_wp2_with fail
 refine(heldAccount _ base _ x.ca x.aa s na (by omega) (by omega) (zu H0).oa).mono ?_
 rintro e w1 ⟨he,rfl⟩
 replace he:e= .returned (.int .i64 (g1 s x.b)):=he
 subst he
 go_wp2_with fail
 refine(heldInstr _ base _ x.ci x.ai (g1 s x.b) ni (by omega) (by omega) (zu H0).oi).mono ?_
 rintro e w2 ⟨he,rfl⟩
 replace he:e= .returned (.int .i64 (g2 s x.b)):=he
 subst he
 go_wp2_with fail
 refine(heldBal _ base _ x.cb x.ab (g2 s x.b) nb (by omega) (by omega) (zu H0).ob).mono ?_
 rintro e w3 ⟨he,rfl⟩
 replace he:e= .returned (.int .i64 (g3 s x.b)):=he
 subst he
 go_wp2_with fail
 refine(heldLot _ base _ x.cl x.al (g3 s x.b) nl (by omega) (by omega) (zu H0).ol).mono ?_
 rintro e w4 ⟨he,rfl⟩
 replace he:e= .returned (.int .i64 (g4 s x.b)):=he
 subst he
 go_wp2_with fail
 refine(heldTrade _ base _ x.ct x.ats (g4 s x.b) nt (by omega) (by omega) (zu H0).ot).mono ?_
 rintro e w5 ⟨he,rfl⟩
 replace he:e= .returned (.int .i64 (g5 s x.b)):=he
 subst he
 go_wp2
 go_ret
 exact⟨rfl,zu B0⟩
end EBk17
namespace EngB17
open Fil14 OpensF14 DiskH14 DkH14 SDk14 Law14 BMemV13 VB13 EBx17 EFin17 EBk17
open BMem (Bx Rd Ow Small)
open Bks (Bk)
open BHelp (Ix RdI)
structure Rg(lo hi:Nat)(w w':World):Prop where
 os:w'.os=w.os
 tape:w'.tape=w.tape
 output:w'.output=w.output
 size:w.heap.size≤w'.heap.size
 block:∀k,k<w.heap.size→k<lo∨hi≤k→w'.heap[k]?=w.heap[k]?
section
variable {lo hi:Nat} {w w' w'':World}
theorem Rg.below(h:Rg lo hi w w')(l:lo≤w.heap.size):Below lo w w':=⟨h.os,h.tape,h.output,h.size,fun k hk=>h.block k (by omega) (.inl hk)⟩
theorem Rg.of(h:Below w.heap.size w w'):Rg lo hi w w':=⟨h.os,h.tape,h.output,h.size,fun k hk _=>h.block k hk⟩
theorem Rg.trans(h:Rg lo hi w w')(k:Rg lo hi w' w''):Rg lo hi w w'':=⟨k.os.trans h.os,k.tape.trans h.tape,k.output.trans h.output,Nat.le_trans h.size k.size,fun j hj hn=>(k.block j (Nat.lt_of_lt_of_le hj h.size) hn).trans (h.block j hj hn)⟩
theorem row_out{base:Nat}{e:TypeId}{m:Nat}{v:Value}{n:Nat}{vs:List Value}(h:w.ownsRow base e m v n vs)(k:Rg lo hi w w')(nn:∀g,v.ownBlock=some g→g<lo∨hi≤g):w'.ownsRow base e m v n vs:=by
 refine⟨h.1,?_⟩
 rcases h.2 with h1|⟨g,c,cur,h1,h2,h3,h4⟩
 ·exact .inl h1
 ·have o:v.ownBlock=some g:=by rw[h1];rfl
  exact .inr ⟨g,c,cur,h1,h2,(k.block g (World.ownsRow.lt h g o).2 (nn g o)).trans h3,h4⟩
end
structure K11(W:World)(g:Nat)(v0 v1 v2 v3 v4 v5 v6 v7 v8 v9 v10:Value):Prop where
 c0:W.cell? ⟨g,0,none⟩=some v0
 c1:W.cell? ⟨g,1,none⟩=some v1
 c2:W.cell? ⟨g,2,none⟩=some v2
 c3:W.cell? ⟨g,3,none⟩=some v3
 c4:W.cell? ⟨g,4,none⟩=some v4
 c5:W.cell? ⟨g,5,none⟩=some v5
 c6:W.cell? ⟨g,6,none⟩=some v6
 c7:W.cell? ⟨g,7,none⟩=some v7
 c8:W.cell? ⟨g,8,none⟩=some v8
 c9:W.cell? ⟨g,9,none⟩=some v9
 c10:W.cell? ⟨g,10,none⟩=some v10
 lt:g<W.heap.size
theorem K11.cs{w:World}{g:Nat}{v0 v1 v2 v3 v4 v5 v6 v7 v8 v9 v10:Value}(h:K11 w g v0 v1 v2 v3 v4 v5 v6 v7 v8 v9 v10):w.cell? ⟨g,0,none⟩=some v0∧w.cell? ⟨g,1,none⟩=some v1∧w.cell? ⟨g,2,none⟩=some v2∧w.cell? ⟨g,3,none⟩=some v3∧w.cell? ⟨g,4,none⟩=some v4∧w.cell? ⟨g,5,none⟩=some v5∧w.cell? ⟨g,6,none⟩=some v6∧w.cell? ⟨g,7,none⟩=some v7∧w.cell? ⟨g,8,none⟩=some v8∧w.cell? ⟨g,9,none⟩=some v9∧w.cell? ⟨g,10,none⟩=some v10:=⟨h.c0,h.c1,h.c2,h.c3,h.c4,h.c5,h.c6,h.c7,h.c8,h.c9,h.c10⟩
theorem K11.made(W:World)(v0 v1 v2 v3 v4 v5 v6 v7 v8 v9 v10:Value)(e:TypeId):K11 (W.alloc (.cells #[v0,v1,v2,v3,v4,v5,v6,v7,v8,v9,v10] e)) W.heap.size v0 v1 v2 v3 v4 v5 v6 v7 v8 v9 v10:=⟨by simp,by simp,by simp,by simp,by simp,by simp,by simp,by simp,by simp,by simp,by simp,by simp⟩
theorem K11.of{W W':World}{g:Nat}{v0 v1 v2 v3 v4 v5 v6 v7 v8 v9 v10:Value}(h:K11 W g v0 v1 v2 v3 v4 v5 v6 v7 v8 v9 v10)(e:W'.heap[g]?=W.heap[g]?)(s:W.heap.size≤W'.heap.size):K11 W' g v0 v1 v2 v3 v4 v5 v6 v7 v8 v9 v10:=
 have q:∀i,W'.cell? ⟨g,i,none⟩=W.cell? ⟨g,i,none⟩:=fun i=>World.cell?_of_block (w:=W) e
 ⟨(q 0).trans h.c0,(q 1).trans h.c1,(q 2).trans h.c2,(q 3).trans h.c3,(q 4).trans h.c4,(q 5).trans h.c5,(q 6).trans h.c6,(q 7).trans h.c7,(q 8).trans h.c8,(q 9).trans h.c9,(q 10).trans h.c10,Nat.lt_of_lt_of_le h.lt s⟩
theorem K11.low{W W':World}{g B:Nat}{v0 v1 v2 v3 v4 v5 v6 v7 v8 v9 v10:Value}(h:K11 W g v0 v1 v2 v3 v4 v5 v6 v7 v8 v9 v10)(k:Below B W W')(hg:g<B):K11 W' g v0 v1 v2 v3 v4 v5 v6 v7 v8 v9 v10:=h.of (k.block g hg) k.size
theorem K11.out{W W':World}{g lo hi:Nat}{v0 v1 v2 v3 v4 v5 v6 v7 v8 v9 v10:Value}(h:K11 W g v0 v1 v2 v3 v4 v5 v6 v7 v8 v9 v10)(k:Rg lo hi W W')(hg:g<lo∨hi≤g):K11 W' g v0 v1 v2 v3 v4 v5 v6 v7 v8 v9 v10:=h.of (k.block g h.lt hg) k.size
theorem K11.step{W W':World}{g:Nat}{v0 v1 v2 v3 v4 v5 v6 v7 v8 v9 v10:Value}(h:K11 W g v0 v1 v2 v3 v4 v5 v6 v7 v8 v9 v10)(k:Below W.heap.size W W'):K11 W' g v0 v1 v2 v3 v4 v5 v6 v7 v8 v9 v10:=h.low k h.lt
structure Ar(w W:World)(up:Bool)(n:Int)(a:Option Addr)(len cap:Nat)(ps:List TF)(y:Ix)(sg ct:Int):Prop where
 k:K11 W w.heap.size (.bool up) (.int .i64 n) (.slice a len cap) (.slice y.aa y.b.ac.length y.ca) (.slice y.ai y.b.ic.length y.ci) (.slice y.ab y.b.bs.length y.cb) (.slice y.al y.b.ls.length y.cl) (.slice y.ats y.b.ts.length y.ct) (.int .i64 y.b.lot) (.int .i64 sg) (.int .i64 ct)
 b:Below w.heap.size w W
 rd:ReadsF W a ps
 rb:RdI W y
section
variable {w W W':World} {up:Bool} {n:Int} {a:Option Addr} {len cap:Nat} {ps:List TF} {y:Ix} {sg ct:Int}
theorem Ar.start(hd:ReadsF w a ps)(hb:RdI w y)(e:TypeId):Ar w (w.alloc (.cells #[.bool up,.int .i64 n,.slice a len cap,.slice y.aa y.b.ac.length y.ca,.slice y.ai y.b.ic.length y.ci,.slice y.ab y.b.bs.length y.cb,.slice y.al y.b.ls.length y.cl,.slice y.ats y.b.ts.length y.ct,.int .i64 y.b.lot,.int .i64 sg,.int .i64 ct] e)) up n a len cap ps y sg ct:=
 ⟨K11.made w (.bool up) (.int .i64 n) (.slice a len cap) (.slice y.aa y.b.ac.length y.ca) (.slice y.ai y.b.ic.length y.ci) (.slice y.ab y.b.bs.length y.cb) (.slice y.al y.b.ls.length y.cl) (.slice y.ats y.b.ts.length y.ct) (.int .i64 y.b.lot) (.int .i64 sg) (.int .i64 ct) e,one_more _ _,hd.below (one_more _ _),hb.below (one_more _ _)⟩
theorem Ar.low{B:Nat}(h:Ar w W up n a len cap ps y sg ct)(hd:ReadsF w a ps)(hb:RdI w y)(k:Below B W W')(l:w.heap.size<B):Ar w W' up n a len cap ps y sg ct:=
 have q:=h.b.trans (k.mono (Nat.le_of_lt l))
 ⟨h.k.low k l,q,hd.below q,hb.below q⟩
theorem Ar.step(h:Ar w W up n a len cap ps y sg ct)(k:Below W.heap.size W W'):Ar w W' up n a len cap ps y sg ct:=
 ⟨h.k.step k,h.b.trans (k.mono (Nat.le_of_lt h.k.lt)),h.rd.below k,h.rb.below k⟩
end
structure Re(W:World)(x:Dx)(y:Ix):Prop where
 d:RdD W x
 b:RdV W y
theorem Re.step{W W':World}{x:Dx}{y:Ix}(h:Re W x y)(k:Below W.heap.size W W'):Re W' x y:=⟨h.d.below k,h.b.below k⟩
theorem rdV_of{W:World}{z:Bx}(h:Rd W z):RdV W (ixB z):=
 ⟨fun _=>⟨_,rfl⟩,fun g e=>by cases e;exact⟨h.la,h.ra⟩,h.na,fun _=>⟨_,rfl⟩,fun g e=>by cases e;exact⟨h.li,h.ri⟩,h.ni,fun _=>⟨_,rfl⟩,fun g e=>by cases e;exact⟨h.lb,h.rb⟩,h.nb,fun _=>⟨_,rfl⟩,fun g e=>by cases e;exact⟨h.ll,h.rl⟩,h.nl,fun _=>⟨_,rfl⟩,fun g e=>by cases e;exact⟨h.lt,h.rt⟩,h.nt⟩
section
variable {W W':World} {N g:Nat} {up:Bool} {x:Dx} {y:Ix} {sg ct:Int}
end
def Inn(lo hi:Nat)(x:Dx)(y:Ix):Prop:=(∀g,(Value.slice x.a x.ps.length x.c).ownBlock=some g→lo≤g∧g<hi)∧(∀g,(.slice y.aa y.b.ac.length y.ca:Value).ownBlock=some g→lo≤g∧g<hi)∧(∀g,(.slice y.ai y.b.ic.length y.ci:Value).ownBlock=some g→lo≤g∧g<hi)∧(∀g,(.slice y.ab y.b.bs.length y.cb:Value).ownBlock=some g→lo≤g∧g<hi)∧(∀g,(.slice y.al y.b.ls.length y.cl:Value).ownBlock=some g→lo≤g∧g<hi)∧(∀g,(.slice y.ats y.b.ts.length y.ct:Value).ownBlock=some g→lo≤g∧g<hi)
theorem inn_of{W:World}{lo:Nat}{x:Dx}{y:Ix}(d:OwD W lo x)(b:OwV W lo y):Inn lo W.heap.size x y:=⟨fun g e=>World.ownsRow.lt d g e,fun g e=>World.ownsRow.lt b.oa g e,fun g e=>World.ownsRow.lt b.oi g e,fun g e=>World.ownsRow.lt b.ob g e,fun g e=>World.ownsRow.lt b.ol g e,fun g e=>World.ownsRow.lt b.ot g e⟩
structure Ag(W:World)(lo g:Nat)(up:Bool)(x:Dx)(y:Ix)(sg ct:Int):Prop where
 k:K11 W g (.bool up) (.int .i64 x.room) (.slice x.a x.ps.length x.c) (.slice y.aa y.b.ac.length y.ca) (.slice y.ai y.b.ic.length y.ci) (.slice y.ab y.b.bs.length y.cb) (.slice y.al y.b.ls.length y.cl) (.slice y.ats y.b.ts.length y.ct) (.int .i64 y.b.lot) (.int .i64 sg) (.int .i64 ct)
 d:OwD W lo x
 b:OwV W lo y
 i:Inn lo g x y
 gl:lo≤g
 nd:x.ps.length≤1048576
 nb:Small y.b
structure Am(W:World)(lo g:Nat)(up:Bool)(x:Dx)(y:Ix)(sg ct:Int):Prop where
 k:K11 W g (.bool up) (.int .i64 x.room) (.slice x.a x.ps.length x.c) (.slice y.aa y.b.ac.length y.ca) (.slice y.ai y.b.ic.length y.ci) (.slice y.ab y.b.bs.length y.cb) (.slice y.al y.b.ls.length y.cl) (.slice y.ats y.b.ts.length y.ct) (.int .i64 y.b.lot) (.int .i64 sg) (.int .i64 ct)
 d:OmD W lo x
 b:OwMVS (1+3*(x.ps.length:Int)) W lo y
 i:Inn lo g x y
 gl:lo≤g
 nd:x.ps.length≤1048576
 nb:Small y.b
section
variable {W W':World} {lo hi g:Nat} {up:Bool} {x:Dx} {y:Ix} {sg ct:Int}
theorem Ag.re(h:Ag W lo g up x y sg ct):Re W x y:=⟨h.d.rd h.nd,h.b.rd h.nb⟩
theorem Ag.step(h:Ag W lo g up x y sg ct)(k:Below W.heap.size W W'):Ag W' lo g up x y sg ct:=⟨h.k.step k,h.d.step k,h.b.step k,h.i,h.gl,h.nd,h.nb⟩
theorem Am.step(h:Am W lo g up x y sg ct)(k:Below W.heap.size W W'):Am W' lo g up x y sg ct:=⟨h.k.step k,h.d.step k,h.b.step k,h.i,h.gl,h.nd,h.nb⟩
theorem Ag.out{l h':Nat}(h:Ag W lo g up x y sg ct)(k:Rg l h' W W')(a:h'≤lo∨g<l):Ag W' lo g up x y sg ct:=
 ⟨h.k.out k (by have:=h.gl;omega),row_out h.d k (fun g e=>by have:=h.i.1 g e;omega),⟨row_out h.b.oa k (fun g e=>by have:=h.i.2.1 g e;omega),row_out h.b.oi k (fun g e=>by have:=h.i.2.2.1 g e;omega),row_out h.b.ob k (fun g e=>by have:=h.i.2.2.2.1 g e;omega),row_out h.b.ol k (fun g e=>by have:=h.i.2.2.2.2.1 g e;omega),row_out h.b.ot k (fun g e=>by have:=h.i.2.2.2.2.2 g e;omega)⟩,h.i,h.gl,h.nd,h.nb⟩
theorem Ag.made{W:World}{lo:Nat}{x:Dx}{y:Ix}(d:OwD W lo x)(b:OwV W lo y)(hl:lo≤W.heap.size)(nd:x.ps.length≤1048576)(nb:Small y.b)(up:Bool)(sg ct:Int)(e:TypeId):Ag (W.alloc (.cells #[.bool up,.int .i64 x.room,.slice x.a x.ps.length x.c,.slice y.aa y.b.ac.length y.ca,.slice y.ai y.b.ic.length y.ci,.slice y.ab y.b.bs.length y.cb,.slice y.al y.b.ls.length y.cl,.slice y.ats y.b.ts.length y.ct,.int .i64 y.b.lot,.int .i64 sg,.int .i64 ct] e)) lo W.heap.size up x y sg ct:=
 ⟨K11.made W (.bool up) (.int .i64 x.room) (.slice x.a x.ps.length x.c) (.slice y.aa y.b.ac.length y.ca) (.slice y.ai y.b.ic.length y.ci) (.slice y.ab y.b.bs.length y.cb) (.slice y.al y.b.ls.length y.cl) (.slice y.ats y.b.ts.length y.ct) (.int .i64 y.b.lot) (.int .i64 sg) (.int .i64 ct) e,d.step (one_more _ _),b.step (one_more _ _),inn_of d b,hl,nd,nb⟩
end
end EngB17
namespace SEngCp17
open Fil14 DkH14 SDk14 EBx17 EFin17 VB13
open BMem (Bx Rd Ow)
open BHelp (Ix)
open IBalsFit (one_more)
theorem ow_ix{w:World}{base:Nat}{z:Bx}(h:Ow w base z):OwV w base (ixB z):=⟨h.oa,h.oi,h.ob,h.ol,h.ot⟩
theorem sCopyE(w:World)(up:Bool)(x:Dx)(z:Bx)(sg ct:Int)(hr:RdD w x)(hy:Rd w z):
  Calls Tryz.prog 50 #[.agg #[.bool up,.int .i64 x.room,.slice x.a x.ps.length x.c,.slice (some ⟨z.ga,0,none⟩) z.b.ac.length z.ca,.slice (some ⟨z.gi,0,none⟩) z.b.ic.length z.ci,.slice (some ⟨z.gb,0,none⟩) z.b.bs.length z.cb,.slice (some ⟨z.gl,0,none⟩) z.b.ls.length z.cl,.slice (some ⟨z.gt,0,none⟩) z.b.ts.length z.ct,.int .i64 z.b.lot,.int .i64 sg,.int .i64 ct]] w (ToldE1 (up,(x.room,x.ps),z.b,sg,ct) w):=by
 have bA:=one_more (w.alloc (.cells #[.bool up,.int .i64 x.room,.slice x.a x.ps.length x.c,.slice (some ⟨z.ga,0,none⟩) z.b.ac.length z.ca,.slice (some ⟨z.gi,0,none⟩) z.b.ic.length z.ci,.slice (some ⟨z.gb,0,none⟩) z.b.bs.length z.cb,.slice (some ⟨z.gl,0,none⟩) z.b.ls.length z.cl,.slice (some ⟨z.gt,0,none⟩) z.b.ts.length z.ct,.int .i64 z.b.lot,.int .i64 sg,.int .i64 ct] 46)) (.cells #[.bool false,.int .i64 0,.slice none 0 0,.slice none 0 0,.slice none 0 0,.slice none 0 0,.slice none 0 0,.slice none 0 0,.int .i64 0,.int .i64 0,.int .i64 0] 46)
 have GW:=zh ((Eg.made hr hy (Below.refl _ _) up sg ct).step bA)
 have KW:=zh (Bx11.made (w:=w.alloc (.cells #[.bool up,.int .i64 x.room,.slice x.a x.ps.length x.c,.slice (some ⟨z.ga,0,none⟩) z.b.ac.length z.ca,.slice (some ⟨z.gi,0,none⟩) z.b.ic.length z.ci,.slice (some ⟨z.gb,0,none⟩) z.b.bs.length z.cb,.slice (some ⟨z.gl,0,none⟩) z.b.ls.length z.cl,.slice (some ⟨z.gt,0,none⟩) z.b.ts.length z.ct,.int .i64 z.b.lot,.int .i64 sg,.int .i64 ct] 46)) (base:=w.heap.size) (g:=w.heap.size+1) (.bool false) (.int .i64 0) (.slice none 0 0) (.slice none 0 0) (.slice none 0 0) (.slice none 0 0) (.slice none 0 0) (.slice none 0 0) (.int .i64 0) (.int .i64 0) (.int .i64 0) (by simp) (by simp))
 have CD:=zh (fun u (h:RdD u x)=>SCopy14.sCopy u x h)
 have CB:=zh (fun u (h:Rd u z)=>SCopy.sCopy u z h)
 clear hr hy bA
 go_enter Tryz.func50,Tryz.ntmps50
 go_wp2_with fail
 generalize (w.alloc (.cells #[.bool up,.int .i64 x.room,.slice x.a x.ps.length x.c,.slice (some ⟨z.ga,0,none⟩) z.b.ac.length z.ca,.slice (some ⟨z.gi,0,none⟩) z.b.ic.length z.ci,.slice (some ⟨z.gb,0,none⟩) z.b.bs.length z.cb,.slice (some ⟨z.gl,0,none⟩) z.b.ls.length z.cl,.slice (some ⟨z.gt,0,none⟩) z.b.ts.length z.ct,.int .i64 z.b.lot,.int .i64 sg,.int .i64 ct] 46)).alloc (.cells #[.bool false,.int .i64 0,.slice none 0 0,.slice none 0 0,.slice none 0 0,.slice none 0 0,.slice none 0 0,.slice none 0 0,.int .i64 0,.int .i64 0,.int .i64 0] 46)=W at *
 have wl:=(zu KW).lt.2
 refine wp_region_held_drew (S:=(fun w'=>w'.cell? ⟨w.heap.size,0,none⟩=some (.bool up)∧w'.cell? ⟨w.heap.size,1,none⟩=some (.int .i64 x.room)∧w'.cell? ⟨w.heap.size,2,none⟩=some (.slice x.a x.ps.length x.c)∧w'.cell? ⟨w.heap.size,3,none⟩=some (.slice (some ⟨z.ga,0,none⟩) z.b.ac.length z.ca)∧w'.cell? ⟨w.heap.size,4,none⟩=some (.slice (some ⟨z.gi,0,none⟩) z.b.ic.length z.ci)∧w'.cell? ⟨w.heap.size,5,none⟩=some (.slice (some ⟨z.gb,0,none⟩) z.b.bs.length z.cb)∧w'.cell? ⟨w.heap.size,6,none⟩=some (.slice (some ⟨z.gl,0,none⟩) z.b.ls.length z.cl)∧w'.cell? ⟨w.heap.size,7,none⟩=some (.slice (some ⟨z.gt,0,none⟩) z.b.ts.length z.ct)∧w'.cell? ⟨w.heap.size,8,none⟩=some (.int .i64 z.b.lot)∧w'.cell? ⟨w.heap.size,9,none⟩=some (.int .i64 sg)∧w'.cell? ⟨w.heap.size,10,none⟩=some (.int .i64 ct))) (by kernel_rfl) ⟨(zu GW).k.c0,(zu GW).k.c1,(zu GW).k.c2,(zu GW).k.c3,(zu GW).k.c4,(zu GW).k.c5,(zu GW).k.c6,(zu GW).k.c7,(zu GW).k.c8,(zu GW).k.c9,(zu GW).k.c10⟩ (fun hHeld=>?_)
 refine zT 0 3 (.pointer (some ⟨w.heap.size,0,none⟩)) rfl hHeld ?_
 refine zT 1 4 (.bool up) rfl hHeld ?_
 refine zT 2 5 (.pointer (some ⟨w.heap.size,1,none⟩)) rfl hHeld ?_
 refine zT 3 6 (.agg #[.int .i64 x.room,.slice x.a x.ps.length x.c]) rfl hHeld ?_
 refine zT 5 8 (.pointer (some ⟨w.heap.size,3,none⟩)) rfl hHeld ?_
 refine zT 6 9 (.agg #[.slice (some ⟨z.ga,0,none⟩) z.b.ac.length z.ca,.slice (some ⟨z.gi,0,none⟩) z.b.ic.length z.ci,.slice (some ⟨z.gb,0,none⟩) z.b.bs.length z.cb,.slice (some ⟨z.gl,0,none⟩) z.b.ls.length z.cl,.slice (some ⟨z.gt,0,none⟩) z.b.ts.length z.ct,.int .i64 z.b.lot]) rfl hHeld ?_
 refine zT 8 11 (.pointer (some ⟨w.heap.size,9,none⟩)) rfl hHeld ?_
 refine zT 9 12 (.int .i64 sg) rfl hHeld ?_
 refine zT 10 13 (.pointer (some ⟨w.heap.size,10,none⟩)) rfl hHeld ?_
 refine zT 11 14 (.int .i64 ct) rfl hHeld ?_
 try simp only[Act.put,zA,zB,zC]
 refine zR 4 rfl (fun K hK=>?_)
 go_simp
 go_wp2_with fail
 refine(zu CD _ (show RdD W.drew x from(zu GW).r.below (Below.refl _ _).drew)).mono ?_
 rintro e Wd ⟨x1,xr,xp,rfl,ox,b6⟩
 have b7:Below W.heap.size W Wd:=⟨b6.os,b6.tape,b6.output,b6.size,b6.block⟩
 have GWd:=zh ((zu GW).step b7)
 have KWd:=zh ((zu KW).below b7 (zu KW).lt.2)
 have XE:=zh (And.intro xr xp)
 have OX:=zh (show OwD Wd W.heap.size x1 from row_base2 ox (Nat.le_refl _))
 have sW:=b7.size
 clear b6 b7 ox xr xp
 go_wp2_with fail
 refine hK.out _ _ ⟨(zu GWd).k.c0,(zu GWd).k.c1,(zu GWd).k.c2,(zu GWd).k.c3,(zu GWd).k.c4,(zu GWd).k.c5,(zu GWd).k.c6,(zu GWd).k.c7,(zu GWd).k.c8,(zu GWd).k.c9,(zu GWd).k.c10⟩ (fun hHeld=>?_)
 clear hK K
 try simp only[Act.put,zA,zB,zC]
 refine zR 7 rfl (fun K hK=>?_)
 go_simp
 go_wp2_with fail
 refine(zu CB _ (show Rd Wd z from(zu GWd).rb)).mono ?_
 rintro e Wdb ⟨z1,zb,rfl,oz,b6⟩
 have b7:Below Wd.heap.size Wd Wdb:=⟨b6.os,b6.tape,b6.output,b6.size,b6.block⟩
 have GWdb:=zh ((zu GWd).step b7)
 have KWdb:=zh ((zu KWd).below b7 (zu KWd).lt.2)
 have ZE:=zh zb
 have OZ:=zh (show OwV Wdb W.heap.size (ixB z1) from ownV_base (ow_ix oz) (by have:=sW;omega))
 replace OX:=zh ((zu OX).step b7)
 clear b6 b7 oz zb
 go_wp2_with fail
 refine hK.out _ _ ⟨(zu GWdb).k.c0,(zu GWdb).k.c1,(zu GWdb).k.c2,(zu GWdb).k.c3,(zu GWdb).k.c4,(zu GWdb).k.c5,(zu GWdb).k.c6,(zu GWdb).k.c7,(zu GWdb).k.c8,(zu GWdb).k.c9,(zu GWdb).k.c10⟩ (fun hHeld=>?_)
 clear hK K
 refine zT 12 15 (.agg #[.bool up,.int .i64 x1.room,.slice x1.a x1.ps.length x1.c,.slice (some ⟨z1.ga,0,none⟩) z1.b.ac.length z1.ca,.slice (some ⟨z1.gi,0,none⟩) z1.b.ic.length z1.ci,.slice (some ⟨z1.gb,0,none⟩) z1.b.bs.length z1.cb,.slice (some ⟨z1.gl,0,none⟩) z1.b.ls.length z1.cl,.slice (some ⟨z1.gt,0,none⟩) z1.b.ts.length z1.ct,.int .i64 z1.b.lot,.int .i64 sg,.int .i64 ct]) rfl hHeld ?_
 try simp only[Act.put,zA,zB,zC]
 have EN:=zh (show Below w.heap.size w ((((((((((((Wdb).setCell ⟨w.heap.size+1,0,none⟩ (.bool up)).setCell ⟨w.heap.size+1,1,none⟩ (.int .i64 x1.room)).setCell ⟨w.heap.size+1,2,none⟩ (.slice x1.a x1.ps.length x1.c)).setCell ⟨w.heap.size+1,3,none⟩ (.slice (some ⟨z1.ga,0,none⟩) z1.b.ac.length z1.ca)).setCell ⟨w.heap.size+1,4,none⟩ (.slice (some ⟨z1.gi,0,none⟩) z1.b.ic.length z1.ci)).setCell ⟨w.heap.size+1,5,none⟩ (.slice (some ⟨z1.gb,0,none⟩) z1.b.bs.length z1.cb)).setCell ⟨w.heap.size+1,6,none⟩ (.slice (some ⟨z1.gl,0,none⟩) z1.b.ls.length z1.cl)).setCell ⟨w.heap.size+1,7,none⟩ (.slice (some ⟨z1.gt,0,none⟩) z1.b.ts.length z1.ct)).setCell ⟨w.heap.size+1,8,none⟩ (.int .i64 z1.b.lot)).setCell ⟨w.heap.size+1,9,none⟩ (.int .i64 sg)).setCell ⟨w.heap.size+1,10,none⟩ (.int .i64 ct))∧Bx11 ((((((((((((Wdb).setCell ⟨w.heap.size+1,0,none⟩ (.bool up)).setCell ⟨w.heap.size+1,1,none⟩ (.int .i64 x1.room)).setCell ⟨w.heap.size+1,2,none⟩ (.slice x1.a x1.ps.length x1.c)).setCell ⟨w.heap.size+1,3,none⟩ (.slice (some ⟨z1.ga,0,none⟩) z1.b.ac.length z1.ca)).setCell ⟨w.heap.size+1,4,none⟩ (.slice (some ⟨z1.gi,0,none⟩) z1.b.ic.length z1.ci)).setCell ⟨w.heap.size+1,5,none⟩ (.slice (some ⟨z1.gb,0,none⟩) z1.b.bs.length z1.cb)).setCell ⟨w.heap.size+1,6,none⟩ (.slice (some ⟨z1.gl,0,none⟩) z1.b.ls.length z1.cl)).setCell ⟨w.heap.size+1,7,none⟩ (.slice (some ⟨z1.gt,0,none⟩) z1.b.ts.length z1.ct)).setCell ⟨w.heap.size+1,8,none⟩ (.int .i64 z1.b.lot)).setCell ⟨w.heap.size+1,9,none⟩ (.int .i64 sg)).setCell ⟨w.heap.size+1,10,none⟩ (.int .i64 ct)) w.heap.size (w.heap.size+1) (.bool up) (.int .i64 x1.room) (.slice x1.a x1.ps.length x1.c) (.slice (some ⟨z1.ga,0,none⟩) z1.b.ac.length z1.ca) (.slice (some ⟨z1.gi,0,none⟩) z1.b.ic.length z1.ci) (.slice (some ⟨z1.gb,0,none⟩) z1.b.bs.length z1.cb) (.slice (some ⟨z1.gl,0,none⟩) z1.b.ls.length z1.cl) (.slice (some ⟨z1.gt,0,none⟩) z1.b.ts.length z1.ct) (.int .i64 z1.b.lot) (.int .i64 sg) (.int .i64 ct)∧OwD ((((((((((((Wdb).setCell ⟨w.heap.size+1,0,none⟩ (.bool up)).setCell ⟨w.heap.size+1,1,none⟩ (.int .i64 x1.room)).setCell ⟨w.heap.size+1,2,none⟩ (.slice x1.a x1.ps.length x1.c)).setCell ⟨w.heap.size+1,3,none⟩ (.slice (some ⟨z1.ga,0,none⟩) z1.b.ac.length z1.ca)).setCell ⟨w.heap.size+1,4,none⟩ (.slice (some ⟨z1.gi,0,none⟩) z1.b.ic.length z1.ci)).setCell ⟨w.heap.size+1,5,none⟩ (.slice (some ⟨z1.gb,0,none⟩) z1.b.bs.length z1.cb)).setCell ⟨w.heap.size+1,6,none⟩ (.slice (some ⟨z1.gl,0,none⟩) z1.b.ls.length z1.cl)).setCell ⟨w.heap.size+1,7,none⟩ (.slice (some ⟨z1.gt,0,none⟩) z1.b.ts.length z1.ct)).setCell ⟨w.heap.size+1,8,none⟩ (.int .i64 z1.b.lot)).setCell ⟨w.heap.size+1,9,none⟩ (.int .i64 sg)).setCell ⟨w.heap.size+1,10,none⟩ (.int .i64 ct)) w.heap.size x1∧OwV ((((((((((((Wdb).setCell ⟨w.heap.size+1,0,none⟩ (.bool up)).setCell ⟨w.heap.size+1,1,none⟩ (.int .i64 x1.room)).setCell ⟨w.heap.size+1,2,none⟩ (.slice x1.a x1.ps.length x1.c)).setCell ⟨w.heap.size+1,3,none⟩ (.slice (some ⟨z1.ga,0,none⟩) z1.b.ac.length z1.ca)).setCell ⟨w.heap.size+1,4,none⟩ (.slice (some ⟨z1.gi,0,none⟩) z1.b.ic.length z1.ci)).setCell ⟨w.heap.size+1,5,none⟩ (.slice (some ⟨z1.gb,0,none⟩) z1.b.bs.length z1.cb)).setCell ⟨w.heap.size+1,6,none⟩ (.slice (some ⟨z1.gl,0,none⟩) z1.b.ls.length z1.cl)).setCell ⟨w.heap.size+1,7,none⟩ (.slice (some ⟨z1.gt,0,none⟩) z1.b.ts.length z1.ct)).setCell ⟨w.heap.size+1,8,none⟩ (.int .i64 z1.b.lot)).setCell ⟨w.heap.size+1,9,none⟩ (.int .i64 sg)).setCell ⟨w.heap.size+1,10,none⟩ (.int .i64 ct)) w.heap.size (ixB z1)∧Wdb.grownBy ((((((((((((Wdb).setCell ⟨w.heap.size+1,0,none⟩ (.bool up)).setCell ⟨w.heap.size+1,1,none⟩ (.int .i64 x1.room)).setCell ⟨w.heap.size+1,2,none⟩ (.slice x1.a x1.ps.length x1.c)).setCell ⟨w.heap.size+1,3,none⟩ (.slice (some ⟨z1.ga,0,none⟩) z1.b.ac.length z1.ca)).setCell ⟨w.heap.size+1,4,none⟩ (.slice (some ⟨z1.gi,0,none⟩) z1.b.ic.length z1.ci)).setCell ⟨w.heap.size+1,5,none⟩ (.slice (some ⟨z1.gb,0,none⟩) z1.b.bs.length z1.cb)).setCell ⟨w.heap.size+1,6,none⟩ (.slice (some ⟨z1.gl,0,none⟩) z1.b.ls.length z1.cl)).setCell ⟨w.heap.size+1,7,none⟩ (.slice (some ⟨z1.gt,0,none⟩) z1.b.ts.length z1.ct)).setCell ⟨w.heap.size+1,8,none⟩ (.int .i64 z1.b.lot)).setCell ⟨w.heap.size+1,9,none⟩ (.int .i64 sg)).setCell ⟨w.heap.size+1,10,none⟩ (.int .i64 ct)) (some (w.heap.size+1)) from ended17 (w:=w) (x:=x1) (y:=ixB z1) up sg ct (zu GWdb).b (zu KWdb) (zu OX) (zu OZ) wl)
 obtain⟨f0,f1,f2,f3,f4,f5,f6,f7,f8,f9,f10⟩:=(zu KWdb).fs
 obtain⟨b0,b1,b2,b3,b4,b5,b6,b7,b8,b9,b10⟩:=(zu KWdb).cs
 have kc:∀o,((((((((((((Wdb).setCell ⟨w.heap.size+1,0,none⟩ (.bool up)).setCell ⟨w.heap.size+1,1,none⟩ (.int .i64 x1.room)).setCell ⟨w.heap.size+1,2,none⟩ (.slice x1.a x1.ps.length x1.c)).setCell ⟨w.heap.size+1,3,none⟩ (.slice (some ⟨z1.ga,0,none⟩) z1.b.ac.length z1.ca)).setCell ⟨w.heap.size+1,4,none⟩ (.slice (some ⟨z1.gi,0,none⟩) z1.b.ic.length z1.ci)).setCell ⟨w.heap.size+1,5,none⟩ (.slice (some ⟨z1.gb,0,none⟩) z1.b.bs.length z1.cb)).setCell ⟨w.heap.size+1,6,none⟩ (.slice (some ⟨z1.gl,0,none⟩) z1.b.ls.length z1.cl)).setCell ⟨w.heap.size+1,7,none⟩ (.slice (some ⟨z1.gt,0,none⟩) z1.b.ts.length z1.ct)).setCell ⟨w.heap.size+1,8,none⟩ (.int .i64 z1.b.lot)).setCell ⟨w.heap.size+1,9,none⟩ (.int .i64 sg)).setCell ⟨w.heap.size+1,10,none⟩ (.int .i64 ct)).cell? ⟨w.heap.size,o,none⟩=Wdb.cell? ⟨w.heap.size,o,none⟩:=fun o=>App14.kcell (zu EN).2.2.2.2 o (by have:=(zu KWdb).lt.2;omega) (by omega)
 refine zR 13 rfl (fun K hK=>?_)
 go_simp
 refine hK.out _ _ ⟨(kc 0).trans ((zu GWdb).k.c0),(kc 1).trans ((zu GWdb).k.c1),(kc 2).trans ((zu GWdb).k.c2),(kc 3).trans ((zu GWdb).k.c3),(kc 4).trans ((zu GWdb).k.c4),(kc 5).trans ((zu GWdb).k.c5),(kc 6).trans ((zu GWdb).k.c6),(kc 7).trans ((zu GWdb).k.c7),(kc 8).trans ((zu GWdb).k.c8),(kc 9).trans ((zu GWdb).k.c9),(kc 10).trans ((zu GWdb).k.c10)⟩ (fun hHeld=>?_)
 clear hK K
 try simp only[Act.put,zA,zB,zC]
 refine wpAnyH_done (by kernel_rfl) ?_ _
 clear f0 b0 f1 b1 f2 b2 f3 b3 f4 b4 f5 b5 f6 b6 f7 b7 f8 b8 f9 b9 f10 b10
 generalize (((((((((((Wdb).setCell ⟨w.heap.size+1,0,none⟩ (.bool up)).setCell ⟨w.heap.size+1,1,none⟩ (.int .i64 x1.room)).setCell ⟨w.heap.size+1,2,none⟩ (.slice x1.a x1.ps.length x1.c)).setCell ⟨w.heap.size+1,3,none⟩ (.slice (some ⟨z1.ga,0,none⟩) z1.b.ac.length z1.ca)).setCell ⟨w.heap.size+1,4,none⟩ (.slice (some ⟨z1.gi,0,none⟩) z1.b.ic.length z1.ci)).setCell ⟨w.heap.size+1,5,none⟩ (.slice (some ⟨z1.gb,0,none⟩) z1.b.bs.length z1.cb)).setCell ⟨w.heap.size+1,6,none⟩ (.slice (some ⟨z1.gl,0,none⟩) z1.b.ls.length z1.cl)).setCell ⟨w.heap.size+1,7,none⟩ (.slice (some ⟨z1.gt,0,none⟩) z1.b.ts.length z1.ct)).setCell ⟨w.heap.size+1,8,none⟩ (.int .i64 z1.b.lot)).setCell ⟨w.heap.size+1,9,none⟩ (.int .i64 sg)).setCell ⟨w.heap.size+1,10,none⟩ (.int .i64 ct)=U at *
 have r0:=(zu EN).2.1
 go_wp2
 obtain⟨q0,q1,q2,q3,q4,q5,q6,q7,q8,q9,q10⟩:=r0.cs
 refine bodyPost_ret (v:= .agg #[.bool up,.int .i64 x1.room,.slice x1.a x1.ps.length x1.c,.slice (some ⟨z1.ga,0,none⟩) z1.b.ac.length z1.ca,.slice (some ⟨z1.gi,0,none⟩) z1.b.ic.length z1.ci,.slice (some ⟨z1.gb,0,none⟩) z1.b.bs.length z1.cb,.slice (some ⟨z1.gl,0,none⟩) z1.b.ls.length z1.cl,.slice (some ⟨z1.gt,0,none⟩) z1.b.ts.length z1.ct,.int .i64 z1.b.lot,.int .i64 sg,.int .i64 ct]) (by simp[results,Tryz.results50,go_sem,q0,q1,q2,q3,q4,q5,q6,q7,q8,q9,q10]) rfl ?_
 exact⟨x1,ixB z1,by rw[(zu XE).1,(zu XE).2],zu ZE,rfl,(zu EN).2.2.1,(zu EN).2.2.2.1,(zu EN).1⟩
end SEngCp17
namespace EngH17
open Fil14 OpensF14 DiskH14 DkH14 SDk14 Law14 BMemV13 VB13 EBx17 EFin17 EBk17 EngB17 SaveH16
open BMem (Bx Rd Ow Small)
open Bks (Bk)
open BHelp (Ix RdI toB)
open BkEq (Fits)
open Bx16 (grow_grow grow_low)
open SEngCp17 (ow_ix)
theorem rd_ix{W:World}{lo:Nat}{z:Bx}(h:OwV W lo (ixB z))(s:Small z.b):Rd W z:=(show Ow W lo z from⟨h.oa,h.oi,h.ob,h.ol,h.ot⟩).rd s
theorem szE(w:World)(up:Bool)(n:Int)(a:Option Addr)(len cap:Nat)(ps:List TF)(y:Ix)(sg ct:Int)(hl:ps.length=len)(hg:len≤9223372036854775807)(hr:ReadsF w a ps)(hf:FitF ps)(hy:Fits y.b):
  Calls Tryz.prog 4 #[.agg #[.bool up,.int .i64 n,.slice a len cap,.slice y.aa y.b.ac.length y.ca,.slice y.ai y.b.ic.length y.ci,.slice y.ab y.b.bs.length y.cb,.slice y.al y.b.ls.length y.cl,.slice y.ats y.b.ts.length y.ct,.int .i64 y.b.lot,.int .i64 sg,.int .i64 ct],.int .i64 1048576] w fun e w'=>∃r,e= .returned (.int .i64 r)∧(r= -1∨(0≤r∧len≤1048576∧sumZ ps≤1048576∧Small y.b))∧Below w.heap.size w w':=by
 have I0:=zh (K11.made w (.bool up) (.int .i64 n) (.slice a len cap) (.slice y.aa y.b.ac.length y.ca) (.slice y.ai y.b.ic.length y.ci) (.slice y.ab y.b.bs.length y.cb) (.slice y.al y.b.ls.length y.cl) (.slice y.ats y.b.ts.length y.ct) (.int .i64 y.b.lot) (.int .i64 sg) (.int .i64 ct) 33)
 have B0:=zh (one_more w (.cells #[.bool up,.int .i64 n,.slice a len cap,.slice y.aa y.b.ac.length y.ca,.slice y.ai y.b.ic.length y.ci,.slice y.ab y.b.bs.length y.cb,.slice y.al y.b.ls.length y.cl,.slice y.ats y.b.ts.length y.ct,.int .i64 y.b.lot,.int .i64 sg,.int .i64 ct] 33))
 have SD:=zh (szD _ n a len cap ps hl hg (hr.below (zu B0)) hf)
 have SB:=zh (fun u left h0 h1=>szBG u y left h0 h1 hy)
 clear hr hf hy
 have c1:=(zu I0).c1
 have c2:=(zu I0).c2
 go_enter Tryz.func4,Tryz.ntmps4
 go_wp2_with fail
 refine(zu SD).mono ?_
 rintro e u ⟨r,rfl,hr,bb⟩
 have I1:=zh ((zu I0).step bb)
 have B1:=zh ((zu B0).trans (bb.mono (zu B0).size))
 have HR:=zh hr
 clear bb SD I0 B0 c1 c2
 rcases hr with rfl|⟨r0,h20,hs⟩
 ·go_wp2
  go_ret
  exact⟨-1,rfl,.inl rfl,zu B1⟩
 have rn:¬r<0:=by omega
 have R:=zh r0
 have H20:=zh h20
 have HS:=zh hs
 clear r0 h20 hs
 have d3:=(zu I1).c3
 have d4:=(zu I1).c4
 have d5:=(zu I1).c5
 have d6:=(zu I1).c6
 have d7:=(zu I1).c7
 have d8:=(zu I1).c8
 go_wp2_with fail
 refine(zu SB u r (zu R).1 (zu R).2).mono ?_
 rintro e v ⟨q,rfl,hq,bb⟩
 have B2:=zh ((zu B1).trans (bb.mono (zu B1).size))
 have HQ:=zh hq
 clear bb d3 d4 d5 d6 d7 d8
 rcases hq with rfl|⟨q0,_⟩
 ·go_wp2
  go_ret
  exact⟨-1,rfl,.inl rfl,zu B2⟩
 have qn:¬q<0:=by omega
 go_wp2
 go_ret
 rcases zu HQ with h|h
 ·omega
 exact⟨q,rfl,.inr ⟨h.1,zu H20,zu HS,h.2⟩,zu B2⟩
theorem fin11{w u W:World}{x:Dx}{z:Bx}{a0 a1 a2 a3 a4 a5 a6 a7 a8 a9 a10 b3 b4 b5 b6 b7 b8 b9 b10:Value}(up:Bool)(sg ct:Int)(B:Below w.heap.size w u)(K1:Bx11 u w.heap.size (w.heap.size+1) a0 a1 a2 a3 a4 a5 a6 a7 a8 a9 a10)(K2:Bx11 u w.heap.size (w.heap.size+1+1) (.bool up) (.int .i64 x.room) (.slice x.a x.ps.length x.c) b3 b4 b5 b6 b7 b8 b9 b10)(D:OwD u W.heap.size x)(O:Ow u W.heap.size z)(us:W.heap.size≤u.heap.size)(s3:W.heap.size=w.heap.size+3):
  OwD ((((((((((((((((((((u).setCell ⟨w.heap.size+1+1,3,none⟩ (.slice (some ⟨z.ga,0,none⟩) z.b.ac.length z.ca)).setCell ⟨w.heap.size+1+1,4,none⟩ (.slice (some ⟨z.gi,0,none⟩) z.b.ic.length z.ci)).setCell ⟨w.heap.size+1+1,5,none⟩ (.slice (some ⟨z.gb,0,none⟩) z.b.bs.length z.cb)).setCell ⟨w.heap.size+1+1,6,none⟩ (.slice (some ⟨z.gl,0,none⟩) z.b.ls.length z.cl)).setCell ⟨w.heap.size+1+1,7,none⟩ (.slice (some ⟨z.gt,0,none⟩) z.b.ts.length z.ct)).setCell ⟨w.heap.size+1+1,8,none⟩ (.int .i64 z.b.lot)).setCell ⟨w.heap.size+1+1,9,none⟩ (.int .i64 sg)).setCell ⟨w.heap.size+1+1,10,none⟩ (.int .i64 ct)).setCell ⟨w.heap.size+1,0,none⟩ (.bool up)).setCell ⟨w.heap.size+1,1,none⟩ (.int .i64 x.room)).setCell ⟨w.heap.size+1,2,none⟩ (.slice x.a x.ps.length x.c)).setCell ⟨w.heap.size+1,3,none⟩ (.slice (some ⟨z.ga,0,none⟩) z.b.ac.length z.ca)).setCell ⟨w.heap.size+1,4,none⟩ (.slice (some ⟨z.gi,0,none⟩) z.b.ic.length z.ci)).setCell ⟨w.heap.size+1,5,none⟩ (.slice (some ⟨z.gb,0,none⟩) z.b.bs.length z.cb)).setCell ⟨w.heap.size+1,6,none⟩ (.slice (some ⟨z.gl,0,none⟩) z.b.ls.length z.cl)).setCell ⟨w.heap.size+1,7,none⟩ (.slice (some ⟨z.gt,0,none⟩) z.b.ts.length z.ct)).setCell ⟨w.heap.size+1,8,none⟩ (.int .i64 z.b.lot)).setCell ⟨w.heap.size+1,9,none⟩ (.int .i64 sg)).setCell ⟨w.heap.size+1,10,none⟩ (.int .i64 ct)) w.heap.size x∧Ow ((((((((((((((((((((u).setCell ⟨w.heap.size+1+1,3,none⟩ (.slice (some ⟨z.ga,0,none⟩) z.b.ac.length z.ca)).setCell ⟨w.heap.size+1+1,4,none⟩ (.slice (some ⟨z.gi,0,none⟩) z.b.ic.length z.ci)).setCell ⟨w.heap.size+1+1,5,none⟩ (.slice (some ⟨z.gb,0,none⟩) z.b.bs.length z.cb)).setCell ⟨w.heap.size+1+1,6,none⟩ (.slice (some ⟨z.gl,0,none⟩) z.b.ls.length z.cl)).setCell ⟨w.heap.size+1+1,7,none⟩ (.slice (some ⟨z.gt,0,none⟩) z.b.ts.length z.ct)).setCell ⟨w.heap.size+1+1,8,none⟩ (.int .i64 z.b.lot)).setCell ⟨w.heap.size+1+1,9,none⟩ (.int .i64 sg)).setCell ⟨w.heap.size+1+1,10,none⟩ (.int .i64 ct)).setCell ⟨w.heap.size+1,0,none⟩ (.bool up)).setCell ⟨w.heap.size+1,1,none⟩ (.int .i64 x.room)).setCell ⟨w.heap.size+1,2,none⟩ (.slice x.a x.ps.length x.c)).setCell ⟨w.heap.size+1,3,none⟩ (.slice (some ⟨z.ga,0,none⟩) z.b.ac.length z.ca)).setCell ⟨w.heap.size+1,4,none⟩ (.slice (some ⟨z.gi,0,none⟩) z.b.ic.length z.ci)).setCell ⟨w.heap.size+1,5,none⟩ (.slice (some ⟨z.gb,0,none⟩) z.b.bs.length z.cb)).setCell ⟨w.heap.size+1,6,none⟩ (.slice (some ⟨z.gl,0,none⟩) z.b.ls.length z.cl)).setCell ⟨w.heap.size+1,7,none⟩ (.slice (some ⟨z.gt,0,none⟩) z.b.ts.length z.ct)).setCell ⟨w.heap.size+1,8,none⟩ (.int .i64 z.b.lot)).setCell ⟨w.heap.size+1,9,none⟩ (.int .i64 sg)).setCell ⟨w.heap.size+1,10,none⟩ (.int .i64 ct)) w.heap.size z∧Below w.heap.size w ((((((((((((((((((((u).setCell ⟨w.heap.size+1+1,3,none⟩ (.slice (some ⟨z.ga,0,none⟩) z.b.ac.length z.ca)).setCell ⟨w.heap.size+1+1,4,none⟩ (.slice (some ⟨z.gi,0,none⟩) z.b.ic.length z.ci)).setCell ⟨w.heap.size+1+1,5,none⟩ (.slice (some ⟨z.gb,0,none⟩) z.b.bs.length z.cb)).setCell ⟨w.heap.size+1+1,6,none⟩ (.slice (some ⟨z.gl,0,none⟩) z.b.ls.length z.cl)).setCell ⟨w.heap.size+1+1,7,none⟩ (.slice (some ⟨z.gt,0,none⟩) z.b.ts.length z.ct)).setCell ⟨w.heap.size+1+1,8,none⟩ (.int .i64 z.b.lot)).setCell ⟨w.heap.size+1+1,9,none⟩ (.int .i64 sg)).setCell ⟨w.heap.size+1+1,10,none⟩ (.int .i64 ct)).setCell ⟨w.heap.size+1,0,none⟩ (.bool up)).setCell ⟨w.heap.size+1,1,none⟩ (.int .i64 x.room)).setCell ⟨w.heap.size+1,2,none⟩ (.slice x.a x.ps.length x.c)).setCell ⟨w.heap.size+1,3,none⟩ (.slice (some ⟨z.ga,0,none⟩) z.b.ac.length z.ca)).setCell ⟨w.heap.size+1,4,none⟩ (.slice (some ⟨z.gi,0,none⟩) z.b.ic.length z.ci)).setCell ⟨w.heap.size+1,5,none⟩ (.slice (some ⟨z.gb,0,none⟩) z.b.bs.length z.cb)).setCell ⟨w.heap.size+1,6,none⟩ (.slice (some ⟨z.gl,0,none⟩) z.b.ls.length z.cl)).setCell ⟨w.heap.size+1,7,none⟩ (.slice (some ⟨z.gt,0,none⟩) z.b.ts.length z.ct)).setCell ⟨w.heap.size+1,8,none⟩ (.int .i64 z.b.lot)).setCell ⟨w.heap.size+1,9,none⟩ (.int .i64 sg)).setCell ⟨w.heap.size+1,10,none⟩ (.int .i64 ct))∧Bx11 ((((((((((((((((((((u).setCell ⟨w.heap.size+1+1,3,none⟩ (.slice (some ⟨z.ga,0,none⟩) z.b.ac.length z.ca)).setCell ⟨w.heap.size+1+1,4,none⟩ (.slice (some ⟨z.gi,0,none⟩) z.b.ic.length z.ci)).setCell ⟨w.heap.size+1+1,5,none⟩ (.slice (some ⟨z.gb,0,none⟩) z.b.bs.length z.cb)).setCell ⟨w.heap.size+1+1,6,none⟩ (.slice (some ⟨z.gl,0,none⟩) z.b.ls.length z.cl)).setCell ⟨w.heap.size+1+1,7,none⟩ (.slice (some ⟨z.gt,0,none⟩) z.b.ts.length z.ct)).setCell ⟨w.heap.size+1+1,8,none⟩ (.int .i64 z.b.lot)).setCell ⟨w.heap.size+1+1,9,none⟩ (.int .i64 sg)).setCell ⟨w.heap.size+1+1,10,none⟩ (.int .i64 ct)).setCell ⟨w.heap.size+1,0,none⟩ (.bool up)).setCell ⟨w.heap.size+1,1,none⟩ (.int .i64 x.room)).setCell ⟨w.heap.size+1,2,none⟩ (.slice x.a x.ps.length x.c)).setCell ⟨w.heap.size+1,3,none⟩ (.slice (some ⟨z.ga,0,none⟩) z.b.ac.length z.ca)).setCell ⟨w.heap.size+1,4,none⟩ (.slice (some ⟨z.gi,0,none⟩) z.b.ic.length z.ci)).setCell ⟨w.heap.size+1,5,none⟩ (.slice (some ⟨z.gb,0,none⟩) z.b.bs.length z.cb)).setCell ⟨w.heap.size+1,6,none⟩ (.slice (some ⟨z.gl,0,none⟩) z.b.ls.length z.cl)).setCell ⟨w.heap.size+1,7,none⟩ (.slice (some ⟨z.gt,0,none⟩) z.b.ts.length z.ct)).setCell ⟨w.heap.size+1,8,none⟩ (.int .i64 z.b.lot)).setCell ⟨w.heap.size+1,9,none⟩ (.int .i64 sg)).setCell ⟨w.heap.size+1,10,none⟩ (.int .i64 ct)) w.heap.size (w.heap.size+1) (.bool up) (.int .i64 x.room) (.slice x.a x.ps.length x.c) (.slice (some ⟨z.ga,0,none⟩) z.b.ac.length z.ca) (.slice (some ⟨z.gi,0,none⟩) z.b.ic.length z.ci) (.slice (some ⟨z.gb,0,none⟩) z.b.bs.length z.cb) (.slice (some ⟨z.gl,0,none⟩) z.b.ls.length z.cl) (.slice (some ⟨z.gt,0,none⟩) z.b.ts.length z.ct) (.int .i64 z.b.lot) (.int .i64 sg) (.int .i64 ct):=by
 have s3x:=K2.set3 (.slice (some ⟨z.ga,0,none⟩) z.b.ac.length z.ca)
 have s4:=s3x.1.set4 (.slice (some ⟨z.gi,0,none⟩) z.b.ic.length z.ci)
 have s5:=s4.1.set5 (.slice (some ⟨z.gb,0,none⟩) z.b.bs.length z.cb)
 have s6:=s5.1.set6 (.slice (some ⟨z.gl,0,none⟩) z.b.ls.length z.cl)
 have s7:=s6.1.set7 (.slice (some ⟨z.gt,0,none⟩) z.b.ts.length z.ct)
 have s8:=s7.1.set8 (.int .i64 z.b.lot)
 have s9:=s8.1.set9 (.int .i64 sg)
 have s10:=s9.1.set10 (.int .i64 ct)
 have G2:=(grow_grow (grow_grow (grow_grow (grow_grow (grow_grow (grow_grow (grow_grow s3x.2 s4.2) s5.2) s6.2) s7.2) s8.2) s9.2) s10.2)
 have L1:=K1.kept G2 (by simp)
 have t0:=L1.set0 (.bool up)
 have t1:=t0.1.set1 (.int .i64 x.room)
 have t2:=t1.1.set2 (.slice x.a x.ps.length x.c)
 have t3:=t2.1.set3 (.slice (some ⟨z.ga,0,none⟩) z.b.ac.length z.ca)
 have t4:=t3.1.set4 (.slice (some ⟨z.gi,0,none⟩) z.b.ic.length z.ci)
 have t5:=t4.1.set5 (.slice (some ⟨z.gb,0,none⟩) z.b.bs.length z.cb)
 have t6:=t5.1.set6 (.slice (some ⟨z.gl,0,none⟩) z.b.ls.length z.cl)
 have t7:=t6.1.set7 (.slice (some ⟨z.gt,0,none⟩) z.b.ts.length z.ct)
 have t8:=t7.1.set8 (.int .i64 z.b.lot)
 have t9:=t8.1.set9 (.int .i64 sg)
 have t10:=t9.1.set10 (.int .i64 ct)
 have G1:=(grow_grow (grow_grow (grow_grow (grow_grow (grow_grow (grow_grow (grow_grow (grow_grow (grow_grow (grow_grow t0.2 t1.2) t2.2) t3.2) t4.2) t5.2) t6.2) t7.2) t8.2) t9.2) t10.2)
 exact⟨App14.row_base (row_kept2 (row_kept2 D G2 (by omega)) G1 (by omega)) (by omega),((O.kept G2 (fun g e=>by cases e;omega)).kept G1 (fun g e=>by cases e;omega)).rebase (by omega),grow_low (grow_low B G2 ⟨by omega,B.size⟩) G1 ⟨by omega,Nat.le_trans B.size G2.size⟩,t10.1⟩
theorem toE(w:World)(up:Bool)(n:Int)(a:Option Addr)(len cap:Nat)(ps:List TF)(y:Ix)(sg ct:Int)(hl:ps.length=len)(h20:len≤1048576)(hr:ReadsF w a ps)(hy:RdI w y)(hs:Small y.b):
  Calls Tryz.prog 6 #[.agg #[.bool up,.int .i64 n,.slice a len cap,.slice y.aa y.b.ac.length y.ca,.slice y.ai y.b.ic.length y.ci,.slice y.ab y.b.bs.length y.cb,.slice y.al y.b.ls.length y.cl,.slice y.ats y.b.ts.length y.ct,.int .i64 y.b.lot,.int .i64 sg,.int .i64 ct]] w fun e w'=>∃(x:Dx) (z:Bx),x.room=n∧x.ps=ps∧z.b=y.b∧e= .returned (.agg #[.bool up,.int .i64 x.room,.slice x.a x.ps.length x.c,.slice (some ⟨z.ga,0,none⟩) z.b.ac.length z.ca,.slice (some ⟨z.gi,0,none⟩) z.b.ic.length z.ci,.slice (some ⟨z.gb,0,none⟩) z.b.bs.length z.cb,.slice (some ⟨z.gl,0,none⟩) z.b.ls.length z.cl,.slice (some ⟨z.gt,0,none⟩) z.b.ts.length z.ct,.int .i64 z.b.lot,.int .i64 sg,.int .i64 ct])∧OwD w' w.heap.size x∧Ow w' w.heap.size z∧Below w.heap.size w w':=by
 have b1:=one_more w (.cells #[.bool up,.int .i64 n,.slice a len cap,.slice y.aa y.b.ac.length y.ca,.slice y.ai y.b.ic.length y.ci,.slice y.ab y.b.bs.length y.cb,.slice y.al y.b.ls.length y.cl,.slice y.ats y.b.ts.length y.ct,.int .i64 y.b.lot,.int .i64 sg,.int .i64 ct] 33)
 have b2:=one_more (w.alloc (.cells #[.bool up,.int .i64 n,.slice a len cap,.slice y.aa y.b.ac.length y.ca,.slice y.ai y.b.ic.length y.ci,.slice y.ab y.b.bs.length y.cb,.slice y.al y.b.ls.length y.cl,.slice y.ats y.b.ts.length y.ct,.int .i64 y.b.lot,.int .i64 sg,.int .i64 ct] 33)) (.cells #[.bool false,.int .i64 0,.slice none 0 0,.slice none 0 0,.slice none 0 0,.slice none 0 0,.slice none 0 0,.slice none 0 0,.int .i64 0,.int .i64 0,.int .i64 0] 46)
 have b3:=one_more ((w.alloc (.cells #[.bool up,.int .i64 n,.slice a len cap,.slice y.aa y.b.ac.length y.ca,.slice y.ai y.b.ic.length y.ci,.slice y.ab y.b.bs.length y.cb,.slice y.al y.b.ls.length y.cl,.slice y.ats y.b.ts.length y.ct,.int .i64 y.b.lot,.int .i64 sg,.int .i64 ct] 33)).alloc (.cells #[.bool false,.int .i64 0,.slice none 0 0,.slice none 0 0,.slice none 0 0,.slice none 0 0,.slice none 0 0,.slice none 0 0,.int .i64 0,.int .i64 0,.int .i64 0] 46)) (.cells #[.bool up,.int .i64 0,.slice none 0 0,.slice none 0 0,.slice none 0 0,.slice none 0 0,.slice none 0 0,.slice none 0 0,.int .i64 0,.int .i64 0,.int .i64 0] 46)
 have I3:=zh (((K11.made w (.bool up) (.int .i64 n) (.slice a len cap) (.slice y.aa y.b.ac.length y.ca) (.slice y.ai y.b.ic.length y.ci) (.slice y.ab y.b.bs.length y.cb) (.slice y.al y.b.ls.length y.cl) (.slice y.ats y.b.ts.length y.ct) (.int .i64 y.b.lot) (.int .i64 sg) (.int .i64 ct) 33).step b2).step b3)
 have K1:=zh ((Bx11.made (w:=(w.alloc (.cells #[.bool up,.int .i64 n,.slice a len cap,.slice y.aa y.b.ac.length y.ca,.slice y.ai y.b.ic.length y.ci,.slice y.ab y.b.bs.length y.cb,.slice y.al y.b.ls.length y.cl,.slice y.ats y.b.ts.length y.ct,.int .i64 y.b.lot,.int .i64 sg,.int .i64 ct] 33))) (base:=w.heap.size) (g:=w.heap.size+1) (.bool false) (.int .i64 0) (.slice none 0 0) (.slice none 0 0) (.slice none 0 0) (.slice none 0 0) (.slice none 0 0) (.slice none 0 0) (.int .i64 0) (.int .i64 0) (.int .i64 0) (by simp) (by simp)).below b3 (by simp))
 have K2:=zh (Bx11.made (w:=((w.alloc (.cells #[.bool up,.int .i64 n,.slice a len cap,.slice y.aa y.b.ac.length y.ca,.slice y.ai y.b.ic.length y.ci,.slice y.ab y.b.bs.length y.cb,.slice y.al y.b.ls.length y.cl,.slice y.ats y.b.ts.length y.ct,.int .i64 y.b.lot,.int .i64 sg,.int .i64 ct] 33)).alloc (.cells #[.bool false,.int .i64 0,.slice none 0 0,.slice none 0 0,.slice none 0 0,.slice none 0 0,.slice none 0 0,.slice none 0 0,.int .i64 0,.int .i64 0,.int .i64 0] 46))) (base:=w.heap.size) (g:=w.heap.size+1+1) (.bool up) (.int .i64 0) (.slice none 0 0) (.slice none 0 0) (.slice none 0 0) (.slice none 0 0) (.slice none 0 0) (.slice none 0 0) (.int .i64 0) (.int .i64 0) (.int .i64 0) (by simp;omega) (by simp))
 have B3:=zh ((b1.trans (b2.mono (by simp))).trans (b3.mono (by simp;omega)))
 have s3:(((w.alloc (.cells #[.bool up,.int .i64 n,.slice a len cap,.slice y.aa y.b.ac.length y.ca,.slice y.ai y.b.ic.length y.ci,.slice y.ab y.b.bs.length y.cb,.slice y.al y.b.ls.length y.cl,.slice y.ats y.b.ts.length y.ct,.int .i64 y.b.lot,.int .i64 sg,.int .i64 ct] 33)).alloc (.cells #[.bool false,.int .i64 0,.slice none 0 0,.slice none 0 0,.slice none 0 0,.slice none 0 0,.slice none 0 0,.slice none 0 0,.int .i64 0,.int .i64 0,.int .i64 0] 46)).alloc (.cells #[.bool up,.int .i64 0,.slice none 0 0,.slice none 0 0,.slice none 0 0,.slice none 0 0,.slice none 0 0,.slice none 0 0,.int .i64 0,.int .i64 0,.int .i64 0] 46)).heap.size=w.heap.size+3:=by simp
 have RD:=zh (hr.below (zu B3))
 have RB:=zh (hy.below (zu B3))
 have RB0:=zh hy
 have TD:=zh (fun u h=>toD u n a len cap ps hl h20 h)
 have c0:=(K11.made w (.bool up) (.int .i64 n) (.slice a len cap) (.slice y.aa y.b.ac.length y.ca) (.slice y.ai y.b.ic.length y.ci) (.slice y.ab y.b.bs.length y.cb) (.slice y.al y.b.ls.length y.cl) (.slice y.ats y.b.ts.length y.ct) (.int .i64 y.b.lot) (.int .i64 sg) (.int .i64 ct) 33).c0
 obtain⟨d0,d1,d2,d3,d4,d5,d6,d7,d8,d9,d10⟩:=(zu I3).cs
 clear b1 b2 b3 hr hy hl h20
 go_enter Tryz.func6,Tryz.ntmps6
 go_wp2_with fail
 clear c0 d0 d1 d2 d3 d4 d5 d6 d7 d8 d9 d10
 generalize (((w.alloc (.cells #[.bool up,.int .i64 n,.slice a len cap,.slice y.aa y.b.ac.length y.ca,.slice y.ai y.b.ic.length y.ci,.slice y.ab y.b.bs.length y.cb,.slice y.al y.b.ls.length y.cl,.slice y.ats y.b.ts.length y.ct,.int .i64 y.b.lot,.int .i64 sg,.int .i64 ct] 33)).alloc (.cells #[.bool false,.int .i64 0,.slice none 0 0,.slice none 0 0,.slice none 0 0,.slice none 0 0,.slice none 0 0,.slice none 0 0,.int .i64 0,.int .i64 0,.int .i64 0] 46)).alloc (.cells #[.bool up,.int .i64 0,.slice none 0 0,.slice none 0 0,.slice none 0 0,.slice none 0 0,.slice none 0 0,.slice none 0 0,.int .i64 0,.int .i64 0,.int .i64 0] 46))=W at *
 refine(zu TD W (zu RD)).mono ?_
 rintro e u1 ⟨x,rfl,rfl,rfl,od,bb⟩
 have us:=bb.size
 have I4:=zh ((zu I3).step bb)
 replace K1:=zh ((zu K1).below bb (by omega))
 replace K2:=zh ((zu K2).below bb (by omega))
 have B4:=zh ((zu B3).trans (bb.mono (by omega)))
 have R4:=zh ((zu RB).below bb)
 have OD:=zh od
 clear bb od I3 RD RB B3
 have h0:=(zu K2).free 0
 have h1:=(zu K2).free 1
 have h2:=(zu K2).free 2
 have h3:=(zu K2).free 3
 have h4:=(zu K2).free 4
 have h5:=(zu K2).free 5
 have h6:=(zu K2).free 6
 have h7:=(zu K2).free 7
 have h8:=(zu K2).free 8
 have h9:=(zu K2).free 9
 have h10:=(zu K2).free 10
 obtain⟨p0,p1,p2,p3,p4,p5,p6,p7,p8,p9,p10⟩:=(zu K2).cs
 obtain⟨d0,d1,d2,d3,d4,d5,d6,d7,d8,d9,d10⟩:=(zu I4).cs
 have M:=zh (show Bx11 (((u1).setCell ⟨w.heap.size+1+1,1,none⟩ (.int .i64 x.room)).setCell ⟨w.heap.size+1+1,2,none⟩ (.slice x.a x.ps.length x.c)) w.heap.size (w.heap.size+1+1) (.bool up) (.int .i64 x.room) (.slice x.a x.ps.length x.c) (.slice none 0 0) (.slice none 0 0) (.slice none 0 0) (.slice none 0 0) (.slice none 0 0) (.int .i64 0) (.int .i64 0) (.int .i64 0)∧u1.grownBy (((u1).setCell ⟨w.heap.size+1+1,1,none⟩ (.int .i64 x.room)).setCell ⟨w.heap.size+1+1,2,none⟩ (.slice x.a x.ps.length x.c)) (some (w.heap.size+1+1)) from by
  have s1:=(zu K2).set1 (.int .i64 x.room)
  have s2:=s1.1.set2 (.slice x.a x.ps.length x.c)
  exact⟨s2.1,grow_grow s1.2 s2.2⟩)
 go_wp2_with fail
 clear h0 h1 h2 h3 h4 h5 h6 h7 h8 h9 h10 p0 p1 p2 p3 p4 p5 p6 p7 p8 p9 p10 d0 d1 d2 d3 d4 d5 d6 d7 d8 d9 d10
 generalize ((u1).setCell ⟨w.heap.size+1+1,1,none⟩ (.int .i64 x.room)).setCell ⟨w.heap.size+1+1,2,none⟩ (.slice x.a x.ps.length x.c)=u2 at *
 have g2:=(zu M).2
 have e2:∀j,j<w.heap.size+1+1→u2.heap[j]?=u1.heap[j]?:=fun j hj=>g2.block j (by omega) (by simp;omega)
 have u2s:=g2.size
 have b2x:Below (w.heap.size+1+1) u1 u2:=⟨g2.os,g2.tape,g2.output,g2.size,e2⟩
 replace K1:=zh ((zu K1).below b2x (by omega))
 replace K2:=zh (zu M).1
 have I5:=zh ((zu I4).low b2x (by omega))
 have B5:=zh ((zu B4).trans (b2x.mono (by omega)))
 have OD5:=zh (show OwD u2 W.heap.size x from row_kept2 (zu OD) g2 (by omega))
 have R5:=zh (show RdI u2 y from(zu RB0).below (zu B5))
 clear M g2 e2 b2x I4 B4 OD R4
 have d3:=(zu I5).c3
 have d4:=(zu I5).c4
 have d5:=(zu I5).c5
 have d6:=(zu I5).c6
 have d7:=(zu I5).c7
 have d8:=(zu I5).c8
 go_wp2_with fail
 refine(toB u2 y (zu R5) hs).mono ?_
 rintro e u ⟨z,hz,rfl,oz,bb⟩
 have us2:=bb.size
 replace K1:=zh ((zu K1).below bb (by omega))
 replace K2:=zh ((zu K2).below bb (by omega))
 have I6:=zh ((zu I5).step bb)
 have B6:=zh ((zu B5).trans (bb.mono (by omega)))
 have OD6:=zh ((zu OD5).step bb)
 have OZ:=zh (oz.rebase (show W.heap.size≤u2.heap.size by omega))
 have HZ:=zh hz
 clear bb oz hz I5 R5 B5 OD5 d3 d4 d5 d6 d7 d8
 have h0:=(zu K2).free 0
 have h1:=(zu K2).free 1
 have h2:=(zu K2).free 2
 have h3:=(zu K2).free 3
 have h4:=(zu K2).free 4
 have h5:=(zu K2).free 5
 have h6:=(zu K2).free 6
 have h7:=(zu K2).free 7
 have h8:=(zu K2).free 8
 have h9:=(zu K2).free 9
 have h10:=(zu K2).free 10
 have f0:=(zu K1).free 0
 have f1:=(zu K1).free 1
 have f2:=(zu K1).free 2
 have f3:=(zu K1).free 3
 have f4:=(zu K1).free 4
 have f5:=(zu K1).free 5
 have f6:=(zu K1).free 6
 have f7:=(zu K1).free 7
 have f8:=(zu K1).free 8
 have f9:=(zu K1).free 9
 have f10:=(zu K1).free 10
 obtain⟨p0,p1,p2,p3,p4,p5,p6,p7,p8,p9,p10⟩:=(zu K2).cs
 obtain⟨q0,q1,q2,q3,q4,q5,q6,q7,q8,q9,q10⟩:=(zu K1).cs
 have d9:=(zu I6).c9
 have d10:=(zu I6).c10
 have FIN:=zh (fin11 (W:=W) up sg ct (zu B6) (zu K1) (zu K2) (zu OD6) (zu OZ) (by omega) s3)
 clear K1 K2 B6 OD6 OZ
 go_wp2
 clear h0 h1 h2 h3 h4 h5 h6 h7 h8 h9 h10 f0 f1 f2 f3 f4 f5 f6 f7 f8 f9 f10 p0 p1 p2 p3 p4 p5 p6 p7 p8 p9 p10 q0 q1 q2 q3 q4 q5 q6 q7 q8 q9 q10 d9 d10
 generalize (((((((((((((((((((u).setCell ⟨w.heap.size+1+1,3,none⟩ (.slice (some ⟨z.ga,0,none⟩) z.b.ac.length z.ca)).setCell ⟨w.heap.size+1+1,4,none⟩ (.slice (some ⟨z.gi,0,none⟩) z.b.ic.length z.ci)).setCell ⟨w.heap.size+1+1,5,none⟩ (.slice (some ⟨z.gb,0,none⟩) z.b.bs.length z.cb)).setCell ⟨w.heap.size+1+1,6,none⟩ (.slice (some ⟨z.gl,0,none⟩) z.b.ls.length z.cl)).setCell ⟨w.heap.size+1+1,7,none⟩ (.slice (some ⟨z.gt,0,none⟩) z.b.ts.length z.ct)).setCell ⟨w.heap.size+1+1,8,none⟩ (.int .i64 z.b.lot)).setCell ⟨w.heap.size+1+1,9,none⟩ (.int .i64 sg)).setCell ⟨w.heap.size+1+1,10,none⟩ (.int .i64 ct)).setCell ⟨w.heap.size+1,0,none⟩ (.bool up)).setCell ⟨w.heap.size+1,1,none⟩ (.int .i64 x.room)).setCell ⟨w.heap.size+1,2,none⟩ (.slice x.a x.ps.length x.c)).setCell ⟨w.heap.size+1,3,none⟩ (.slice (some ⟨z.ga,0,none⟩) z.b.ac.length z.ca)).setCell ⟨w.heap.size+1,4,none⟩ (.slice (some ⟨z.gi,0,none⟩) z.b.ic.length z.ci)).setCell ⟨w.heap.size+1,5,none⟩ (.slice (some ⟨z.gb,0,none⟩) z.b.bs.length z.cb)).setCell ⟨w.heap.size+1,6,none⟩ (.slice (some ⟨z.gl,0,none⟩) z.b.ls.length z.cl)).setCell ⟨w.heap.size+1,7,none⟩ (.slice (some ⟨z.gt,0,none⟩) z.b.ts.length z.ct)).setCell ⟨w.heap.size+1,8,none⟩ (.int .i64 z.b.lot)).setCell ⟨w.heap.size+1,9,none⟩ (.int .i64 sg)).setCell ⟨w.heap.size+1,10,none⟩ (.int .i64 ct)=U at *
 have r0:=(zu FIN).2.2.2.c0
 have r1:=(zu FIN).2.2.2.c1
 have r2:=(zu FIN).2.2.2.c2
 have r3:=(zu FIN).2.2.2.c3
 have r4:=(zu FIN).2.2.2.c4
 have r5:=(zu FIN).2.2.2.c5
 have r6:=(zu FIN).2.2.2.c6
 have r7:=(zu FIN).2.2.2.c7
 have r8:=(zu FIN).2.2.2.c8
 have r9:=(zu FIN).2.2.2.c9
 have r10:=(zu FIN).2.2.2.c10
 refine bodyPost_ret (v:= .agg #[.bool up,.int .i64 x.room,.slice x.a x.ps.length x.c,.slice (some ⟨z.ga,0,none⟩) z.b.ac.length z.ca,.slice (some ⟨z.gi,0,none⟩) z.b.ic.length z.ci,.slice (some ⟨z.gb,0,none⟩) z.b.bs.length z.cb,.slice (some ⟨z.gl,0,none⟩) z.b.ls.length z.cl,.slice (some ⟨z.gt,0,none⟩) z.b.ts.length z.ct,.int .i64 z.b.lot,.int .i64 sg,.int .i64 ct]) (by simp[results,Tryz.results6,go_sem,r0,r1,r2,r3,r4,r5,r6,r7,r8,r9,r10]) rfl ?_
 exact⟨x,z,rfl,rfl,zu HZ,rfl,(zu FIN).1,(zu FIN).2.1,(zu FIN).2.2.1⟩
theorem eqE(w:World)(up:Bool)(x x2:Dx)(y y2:Ix)(sg ct:Int)(hr:x2.room=x.room)(hp:x2.ps=x.ps)(hb:y2.b=y.b)(h1:Re w x y)(h2:Re w x2 y2):
  Calls Tryz.prog 8 #[.agg #[.bool up,.int .i64 x.room,.slice x.a x.ps.length x.c,.slice y.aa y.b.ac.length y.ca,.slice y.ai y.b.ic.length y.ci,.slice y.ab y.b.bs.length y.cb,.slice y.al y.b.ls.length y.cl,.slice y.ats y.b.ts.length y.ct,.int .i64 y.b.lot,.int .i64 sg,.int .i64 ct],.agg #[.bool up,.int .i64 x2.room,.slice x2.a x2.ps.length x2.c,.slice y2.aa y2.b.ac.length y2.ca,.slice y2.ai y2.b.ic.length y2.ci,.slice y2.ab y2.b.bs.length y2.cb,.slice y2.al y2.b.ls.length y2.cl,.slice y2.ats y2.b.ts.length y2.ct,.int .i64 y2.b.lot,.int .i64 sg,.int .i64 ct]] w fun e w'=>e= .returned (.bool true)∧Below w.heap.size w w':=by
 have b1:=one_more w (.cells #[.bool up,.int .i64 x.room,.slice x.a x.ps.length x.c,.slice y.aa y.b.ac.length y.ca,.slice y.ai y.b.ic.length y.ci,.slice y.ab y.b.bs.length y.cb,.slice y.al y.b.ls.length y.cl,.slice y.ats y.b.ts.length y.ct,.int .i64 y.b.lot,.int .i64 sg,.int .i64 ct] 46)
 have b2:=one_more (w.alloc (.cells #[.bool up,.int .i64 x.room,.slice x.a x.ps.length x.c,.slice y.aa y.b.ac.length y.ca,.slice y.ai y.b.ic.length y.ci,.slice y.ab y.b.bs.length y.cb,.slice y.al y.b.ls.length y.cl,.slice y.ats y.b.ts.length y.ct,.int .i64 y.b.lot,.int .i64 sg,.int .i64 ct] 46)) (.cells #[.bool up,.int .i64 x2.room,.slice x2.a x2.ps.length x2.c,.slice y2.aa y2.b.ac.length y2.ca,.slice y2.ai y2.b.ic.length y2.ci,.slice y2.ab y2.b.bs.length y2.cb,.slice y2.al y2.b.ls.length y2.cl,.slice y2.ats y2.b.ts.length y2.ct,.int .i64 y2.b.lot,.int .i64 sg,.int .i64 ct] 46)
 have B:=zh (b1.trans (b2.mono b1.size))
 have K1:=zh ((K11.made w (.bool up) (.int .i64 x.room) (.slice x.a x.ps.length x.c) (.slice y.aa y.b.ac.length y.ca) (.slice y.ai y.b.ic.length y.ci) (.slice y.ab y.b.bs.length y.cb) (.slice y.al y.b.ls.length y.cl) (.slice y.ats y.b.ts.length y.ct) (.int .i64 y.b.lot) (.int .i64 sg) (.int .i64 ct) 46).step b2)
 have k2:=K11.made (w.alloc (.cells #[.bool up,.int .i64 x.room,.slice x.a x.ps.length x.c,.slice y.aa y.b.ac.length y.ca,.slice y.ai y.b.ic.length y.ci,.slice y.ab y.b.bs.length y.cb,.slice y.al y.b.ls.length y.cl,.slice y.ats y.b.ts.length y.ct,.int .i64 y.b.lot,.int .i64 sg,.int .i64 ct] 46)) (.bool up) (.int .i64 x2.room) (.slice x2.a x2.ps.length x2.c) (.slice y2.aa y2.b.ac.length y2.ca) (.slice y2.ai y2.b.ic.length y2.ci) (.slice y2.ab y2.b.bs.length y2.cb) (.slice y2.al y2.b.ls.length y2.cl) (.slice y2.ats y2.b.ts.length y2.ct) (.int .i64 y2.b.lot) (.int .i64 sg) (.int .i64 ct) 46
 rw[show(w.alloc (.cells #[.bool up,.int .i64 x.room,.slice x.a x.ps.length x.c,.slice y.aa y.b.ac.length y.ca,.slice y.ai y.b.ic.length y.ci,.slice y.ab y.b.bs.length y.cb,.slice y.al y.b.ls.length y.cl,.slice y.ats y.b.ts.length y.ct,.int .i64 y.b.lot,.int .i64 sg,.int .i64 ct] 46)).heap.size=w.heap.size+1 by simp] at k2
 have K2:=zh k2
 have R1:=zh (h1.step (zu B))
 have R2:=zh (h2.step (zu B))
 have ED:=zh (fun u a b=>eqD u x x2 hr hp a b)
 have EB:=zh (fun u a b=>eqBV u y y2 hb a b)
 have uu:(up !=up)=false:=by simp
 have ss:(sg !=sg)=false:=by simp
 have cc:(ct !=ct)=false:=by simp
 clear b1 b2 k2 h1 h2 hr hp hb
 obtain⟨c0,c1,c2,c3,c4,c5,c6,c7,c8,c9,c10⟩:=(zu K1).cs
 obtain⟨d0,d1,d2,d3,d4,d5,d6,d7,d8,d9,d10⟩:=(zu K2).cs
 go_enter Tryz.func8,Tryz.ntmps8
 go_wp2_with fail
 clear c0 c1 c2 c3 c4 c5 c6 c7 c8 c9 c10 d0 d1 d2 d3 d4 d5 d6 d7 d8 d9 d10
 generalize (w.alloc (.cells #[.bool up,.int .i64 x.room,.slice x.a x.ps.length x.c,.slice y.aa y.b.ac.length y.ca,.slice y.ai y.b.ic.length y.ci,.slice y.ab y.b.bs.length y.cb,.slice y.al y.b.ls.length y.cl,.slice y.ats y.b.ts.length y.ct,.int .i64 y.b.lot,.int .i64 sg,.int .i64 ct] 46)).alloc (.cells #[.bool up,.int .i64 x2.room,.slice x2.a x2.ps.length x2.c,.slice y2.aa y2.b.ac.length y2.ca,.slice y2.ai y2.b.ic.length y2.ci,.slice y2.ab y2.b.bs.length y2.cb,.slice y2.al y2.b.ls.length y2.cl,.slice y2.ats y2.b.ts.length y2.ct,.int .i64 y2.b.lot,.int .i64 sg,.int .i64 ct] 46)=W at *
 refine(zu ED W (zu R1).d (zu R2).d).mono ?_
 rintro e u ⟨rfl,bb⟩
 replace K1:=zh ((zu K1).step bb)
 replace K2:=zh ((zu K2).step bb)
 replace R1:=zh ((zu R1).step bb)
 replace R2:=zh ((zu R2).step bb)
 replace B:=zh ((zu B).trans (bb.mono (zu B).size))
 clear bb ED
 obtain⟨c0,c1,c2,c3,c4,c5,c6,c7,c8,c9,c10⟩:=(zu K1).cs
 obtain⟨d0,d1,d2,d3,d4,d5,d6,d7,d8,d9,d10⟩:=(zu K2).cs
 go_wp2_with fail
 refine(zu EB u (zu R1).b (zu R2).b).mono ?_
 rintro e v ⟨rfl,bb⟩
 clear c0 c1 c2 c3 c4 c5 c6 c7 c8 c9 c10 d0 d1 d2 d3 d4 d5 d6 d7 d8 d9 d10
 replace K1:=zh ((zu K1).step bb)
 replace K2:=zh ((zu K2).step bb)
 replace B:=zh ((zu B).trans (bb.mono (zu B).size))
 clear bb EB R1 R2
 obtain⟨c0,c1,c2,c3,c4,c5,c6,c7,c8,c9,c10⟩:=(zu K1).cs
 obtain⟨d0,d1,d2,d3,d4,d5,d6,d7,d8,d9,d10⟩:=(zu K2).cs
 go_wp2
 go_ret
 exact⟨rfl,zu B⟩
theorem row_keepV{W W':World}{base base':Nat}{y:Ix}{v:Value}{n:Nat}{vs:List Value}(h:W.ownsRow base 81 3 v n vs)(k:TurnV y W W')(o:OwV W base' y):W'.ownsRow base 81 3 v n vs:=by
 refine⟨h.1,?_⟩
 rcases h.2 with h1|⟨g,c,cur,h1,h2,h3,h4⟩
 ·exact .inl h1
 ·have hl:=(World.ownsRow.lt h g (by rw[h1];rfl)).2
  have ne:∀{e':TypeId} {m':Nat} {v':Value} {n':Nat} {vs':List Value},W.ownsRow base' e' m' v' n' vs'→81≠e'→some g≠v'.ownBlock:=fun{e' m' v' n' vs'} q nq eq=>by
   rcases q.2 with⟨k1,_⟩|⟨b2,c2,cur2,k1,_,k2,_⟩
   ·rw[k1] at eq;simp[Value.ownBlock] at eq
   ·rw[k1] at eq
    have e2:g=b2:=by simpa[Value.ownBlock] using eq
    subst e2
    rw[h3] at k2
    injection k2 with k2
    injection k2 with _ k2
    exact nq k2
  exact .inr ⟨g,c,cur,h1,h2,(k.block g hl (ne o.oa (by decide)) (ne o.oi (by decide)) (ne o.ob (by decide)) (ne o.ol (by decide)) (ne o.ot (by decide))).trans h3,h4⟩
def mE(x:Dx)(y:Ix):Int:=g5 (1+3*(x.ps.length:Int)) y.b
theorem mE_bd{x:Dx}{y:Ix}(hd:x.ps.length≤1048576)(hb:Small y.b):0≤mE x y∧mE x y≤100000000:=(g_bd (by omega) (by omega) hb).2.2.2.2
theorem rg_turnD{W W':World}{lo hi:Nat}{x:Dx}(k:TurnD x W W')(i:∀g,(Value.slice x.a x.ps.length x.c).ownBlock=some g→lo≤g∧g<hi):Rg lo hi W W':=
 ⟨k.os,k.tape,k.output,k.size,fun j hj hn=>k.block j hj (fun e=>by have:=i j e.symm;omega)⟩
theorem rg_turnV{W W':World}{lo hi:Nat}{x:Dx}{y:Ix}(k:TurnV y W W')(i:Inn lo hi x y):Rg lo hi W W':=
 ⟨k.os,k.tape,k.output,k.size,fun j hj hn=>k.block j hj (fun e=>by have:=i.2.1 j e.symm;omega) (fun e=>by have:=i.2.2.1 j e.symm;omega) (fun e=>by have:=i.2.2.2.1 j e.symm;omega) (fun e=>by have:=i.2.2.2.2.1 j e.symm;omega) (fun e=>by have:=i.2.2.2.2.2 j e.symm;omega)⟩
theorem markE(w:World)(lo g:Nat)(up:Bool)(x:Dx)(y:Ix)(sg ct:Int)(h:Ag w lo g up x y sg ct):
  Calls Tryz.prog 9 #[.agg #[.bool up,.int .i64 x.room,.slice x.a x.ps.length x.c,.slice y.aa y.b.ac.length y.ca,.slice y.ai y.b.ic.length y.ci,.slice y.ab y.b.bs.length y.cb,.slice y.al y.b.ls.length y.cl,.slice y.ats y.b.ts.length y.ct,.int .i64 y.b.lot,.int .i64 sg,.int .i64 ct],.int .i64 1] w fun e w'=>e= .returned (.int .i64 (mE x y))∧Am w' lo g up x y sg ct∧Rg lo g w w':=by
 have b1:=one_more w (.cells #[.bool up,.int .i64 x.room,.slice x.a x.ps.length x.c,.slice y.aa y.b.ac.length y.ca,.slice y.ai y.b.ic.length y.ci,.slice y.ab y.b.bs.length y.cb,.slice y.al y.b.ls.length y.cl,.slice y.ats y.b.ts.length y.ct,.int .i64 y.b.lot,.int .i64 sg,.int .i64 ct] 46)
 have K0:=zh (K11.made w (.bool up) (.int .i64 x.room) (.slice x.a x.ps.length x.c) (.slice y.aa y.b.ac.length y.ca) (.slice y.ai y.b.ic.length y.ci) (.slice y.ab y.b.bs.length y.cb) (.slice y.al y.b.ls.length y.cl) (.slice y.ats y.b.ts.length y.ct) (.int .i64 y.b.lot) (.int .i64 sg) (.int .i64 ct) 46)
 have H1:=zh (h.step b1)
 have RG:=zh (show Rg lo g w (w.alloc (.cells #[.bool up,.int .i64 x.room,.slice x.a x.ps.length x.c,.slice y.aa y.b.ac.length y.ca,.slice y.ai y.b.ic.length y.ci,.slice y.ab y.b.bs.length y.cb,.slice y.al y.b.ls.length y.cl,.slice y.ats y.b.ts.length y.ct,.int .i64 y.b.lot,.int .i64 sg,.int .i64 ct] 46)) from Rg.of b1)
 have sz:(w.alloc (.cells #[.bool up,.int .i64 x.room,.slice x.a x.ps.length x.c,.slice y.aa y.b.ac.length y.ca,.slice y.ai y.b.ic.length y.ci,.slice y.ab y.b.bs.length y.cb,.slice y.al y.b.ls.length y.cl,.slice y.ats y.b.ts.length y.ct,.int .i64 y.b.lot,.int .i64 sg,.int .i64 ct] 46)).heap.size=w.heap.size+1:=by simp
 have lx:=h.nd
 have lg:=h.k.lt
 have ll:=h.gl
 clear b1 h
 obtain⟨c0,c1,c2,c3,c4,c5,c6,c7,c8,c9,c10⟩:=(zu K0).cs
 go_enter Tryz.func9,Tryz.ntmps9
 go_wp2_with fail
 clear c0 c1 c2 c3 c4 c5 c6 c7 c8 c9 c10
 generalize hW:w.alloc (.cells #[.bool up,.int .i64 x.room,.slice x.a x.ps.length x.c,.slice y.aa y.b.ac.length y.ca,.slice y.ai y.b.ic.length y.ci,.slice y.ab y.b.bs.length y.cb,.slice y.al y.b.ls.length y.cl,.slice y.ats y.b.ts.length y.ct,.int .i64 y.b.lot,.int .i64 sg,.int .i64 ct] 46)=W at *
 refine(markD W lo x lx (by omega) (zu H1).d).mono ?_
 rintro e u ⟨rfl,om,tn⟩
 have r1:=rg_turnD tn (zu H1).i.1
 have z1:=r1.size
 have gr:W.grownBy u (Value.slice x.a x.ps.length x.c).ownBlock:=⟨tn.os,tn.tape,tn.output,tn.size,fun i hi ne=>tn.block i hi ne⟩
 have O:=zh om
 have NN:=zh (And.intro (zu H1).i (And.intro (zu H1).gl (zu H1).nb))
 have KB:=zh (show OwV u lo y from⟨other (zu H1).b.oa (zu H1).d (by decide) gr,other (zu H1).b.oi (zu H1).d (by decide) gr,other (zu H1).b.ob (zu H1).d (by decide) gr,other (zu H1).b.ol (zu H1).d (by decide) gr,other (zu H1).b.ot (zu H1).d (by decide) gr⟩)
 have KG:=zh ((zu H1).k.out r1 (.inr (Nat.le_refl _)))
 have K1:=zh ((zu K0).out r1 (.inr (by omega)))
 have RG2:=zh ((zu RG).trans r1)
 clear om tn gr r1 H1 K0 RG
 have c3:=(zu K1).c3
 have c4:=(zu K1).c4
 have c5:=(zu K1).c5
 have c6:=(zu K1).c6
 have c7:=(zu K1).c7
 have c8:=(zu K1).c8
 go_wp2_with fail
 refine(markBVG u lo y (1+3*(x.ps.length:Int)) (by omega) (by omega) (zu KB) (by omega) (zu NN).2.2).mono ?_
 rintro e v ⟨rfl,ob,tv⟩
 have r2:=rg_turnV tv (zu NN).1
 have q5:=(zu KB)
 have gr:∀{k:Nat},True→True:=fun _=>trivial
 have OD:=zh (show OmD v lo x from row_keepV (zu O) tv q5)
 have F:=zh (show Am v lo g up x y sg ct from⟨(zu KG).out r2 (.inr (Nat.le_refl _)),zu OD,ob,(zu NN).1,(zu NN).2.1,lx,(zu NN).2.2⟩)
 have RG3:=zh ((zu RG2).trans r2)
 clear ob tv r2 q5 gr O OD KG KB RG2 NN K1 c3 c4 c5 c6 c7 c8
 go_wp2
 go_ret
 exact⟨rfl,zu F,zu RG3⟩
theorem heldE(w:World)(lo g:Nat)(up:Bool)(x:Dx)(y:Ix)(sg ct:Int)(h:Am w lo g up x y sg ct):
  Calls Tryz.prog 10 #[.agg #[.bool up,.int .i64 x.room,.slice x.a x.ps.length x.c,.slice y.aa y.b.ac.length y.ca,.slice y.ai y.b.ic.length y.ci,.slice y.ab y.b.bs.length y.cb,.slice y.al y.b.ls.length y.cl,.slice y.ats y.b.ts.length y.ct,.int .i64 y.b.lot,.int .i64 sg,.int .i64 ct],.int .i64 1] w fun e w'=>e= .returned (.int .i64 (mE x y))∧Below w.heap.size w w':=by
 have b1:=one_more w (.cells #[.bool up,.int .i64 x.room,.slice x.a x.ps.length x.c,.slice y.aa y.b.ac.length y.ca,.slice y.ai y.b.ic.length y.ci,.slice y.ab y.b.bs.length y.cb,.slice y.al y.b.ls.length y.cl,.slice y.ats y.b.ts.length y.ct,.int .i64 y.b.lot,.int .i64 sg,.int .i64 ct] 46)
 have K0:=zh (K11.made w (.bool up) (.int .i64 x.room) (.slice x.a x.ps.length x.c) (.slice y.aa y.b.ac.length y.ca) (.slice y.ai y.b.ic.length y.ci) (.slice y.ab y.b.bs.length y.cb) (.slice y.al y.b.ls.length y.cl) (.slice y.ats y.b.ts.length y.ct) (.int .i64 y.b.lot) (.int .i64 sg) (.int .i64 ct) 46)
 have H1:=zh (h.step b1)
 have B:=zh b1
 have q1:¬(1+3*(x.ps.length:Int)<0):=by omega
 have lx:=h.nd
 have HB:=zh (mE_bd h.nd h.nb)
 clear b1 h
 obtain⟨c0,c1,c2,c3,c4,c5,c6,c7,c8,c9,c10⟩:=(zu K0).cs
 go_enter Tryz.func10,Tryz.ntmps10
 go_wp2_with fail
 clear c0 c1 c2 c3 c4 c5 c6 c7 c8 c9 c10
 generalize hW:w.alloc (.cells #[.bool up,.int .i64 x.room,.slice x.a x.ps.length x.c,.slice y.aa y.b.ac.length y.ca,.slice y.ai y.b.ic.length y.ci,.slice y.ab y.b.bs.length y.cb,.slice y.al y.b.ls.length y.cl,.slice y.ats y.b.ts.length y.ct,.int .i64 y.b.lot,.int .i64 sg,.int .i64 ct] 46)=W at *
 refine(heldD W lo x lx (zu H1).d).mono ?_
 rintro e u ⟨rfl,bb⟩
 replace H1:=zh ((zu H1).step bb)
 replace K0:=zh ((zu K0).step bb)
 replace B:=zh ((zu B).trans (bb.mono (by rw[←hW];simp)))
 clear bb
 have c3:=(zu K0).c3
 have c4:=(zu K0).c4
 have c5:=(zu K0).c5
 have c6:=(zu K0).c6
 have c7:=(zu K0).c7
 have c8:=(zu K0).c8
 go_wp2_with fail
 refine(heldBVG u lo y (1+3*(x.ps.length:Int)) (by omega) (by omega) (zu H1).b (zu H1).nb).mono ?_
 rintro e v ⟨rfl,bb⟩
 replace B:=zh ((zu B).trans (bb.mono (zu B).size))
 clear bb K0 H1 c3 c4 c5 c6 c7 c8
 have mb:=(zu HB).1
 have q2:¬(g5 (1+3*(x.ps.length:Int)) y.b<0):=by show ¬(mE x y<0);omega
 go_wp2
 go_ret
 exact⟨rfl,zu B⟩
end EngH17
namespace SEngOk17
open Fil14 OpensF14 DiskH14 DkH14 SDk14 SOk14 SRd14 EBx17 SSameZ17
open BMem (Bx Rd)
open Bks (Bk Ok)
open Lots (Says says_of)
open SegP15 (okS)
open SSg16 (sSegOk)
def NoLate(ps:List TF)(k:Nat):Prop:=∀i,i<k→(elF ps i).2.2.toList.isEmpty=true
def OkE(up:Bool)(room:Int)(ps:List TF)(b:Bk)(sg ct:Int):Prop:=OkD room ps∧(up=true→Ok b∧okS sg=true∧0≤ct∧ct≤6)∧(up=false→NoLate ps ps.length∧b=noB∧sg=0∧ct=0)
theorem late_next{ps:List TF}{k:Nat}(h:NoLate ps k)(e:(elF ps k).2.2.toList.isEmpty=true):NoLate ps (k+1):=fun i hi=>by
 by_cases q:i=k
 ·rw[q];exact e
 ·exact h i (by omega)
theorem sEngineOk(w:World)(up:Bool)(x:Dx)(z:Bx)(sg ct:Int)(vb v:Bool)(hr:RdD w x)(hz:sumZ x.ps≤1048576)(hy:Rd w z)(hb:Says vb (Ok z.b))(hv:Says v (OkE up x.room x.ps z.b sg ct)):
  Calls Tryz.prog 13 #[.agg #[.bool up,.int .i64 x.room,.slice x.a x.ps.length x.c,.slice (some ⟨z.ga,0,none⟩) z.b.ac.length z.ca,.slice (some ⟨z.gi,0,none⟩) z.b.ic.length z.ci,.slice (some ⟨z.gb,0,none⟩) z.b.bs.length z.cb,.slice (some ⟨z.gl,0,none⟩) z.b.ls.length z.cl,.slice (some ⟨z.gt,0,none⟩) z.b.ts.length z.ct,.int .i64 z.b.lot,.int .i64 sg,.int .i64 ct]] w fun e w'=>e= .returned (.bool v)∧Below w.heap.size w w':=by
 have G0:=zh (Eg.made hr hy (Below.refl _ _) up sg ct)
 have OK0:=zh (fun u (h:RdD u x)=>sDiskOk u x h hz)
 have BO:=zh (fun u (h:Rd u z)=>SBooksOk.sBooksOk u z vb h hb)
 have BS:=zh (fun u (h:Rd u z) b (q:Says b (z.b=noB))=>sSameZ u z b h q)
 have HB:=zh hb
 have HV:=zh (show v=true↔OkE up x.room x.ps z.b sg ct from hv)
 have h20:=hr.n
 clear hr hy hb hv
 have c1:=(zu G0).k.c1
 have c2:=(zu G0).k.c2
 have lt:=(zu G0).k.lt.2
 go_enter Tryz.func13,Tryz.ntmps13
 go_wp2_with fail
 generalize w.alloc (.cells #[.bool up,.int .i64 x.room,.slice x.a x.ps.length x.c,.slice (some ⟨z.ga,0,none⟩) z.b.ac.length z.ca,.slice (some ⟨z.gi,0,none⟩) z.b.ic.length z.ci,.slice (some ⟨z.gb,0,none⟩) z.b.bs.length z.cb,.slice (some ⟨z.gl,0,none⟩) z.b.ls.length z.cl,.slice (some ⟨z.gt,0,none⟩) z.b.ts.length z.ct,.int .i64 z.b.lot,.int .i64 sg,.int .i64 ct] 46)=W at *
 refine(zu OK0 _ (zu G0).r).mono ?_
 rintro e u ⟨rfl,b1⟩
 have G1:=zh ((zu G0).step b1)
 clear b1 G0 OK0
 clear c1 c2 lt
 by_cases ok:OkD x.room x.ps
 case neg=>
  have od:decide (OkD x.room x.ps)=false:=decide_eq_false ok
  have V:=zh (show v=false from by
   cases e:v with
   |false=>rfl
   |true=>exact absurd ((zu HV).1 e).1 ok)
  clear ok HV
  go_wp2
  go_ret
  exact⟨by rw[zu V];rfl,(zu G1).b⟩
 have od:decide (OkD x.room x.ps)=true:=decide_eq_true ok
 have OK:=zh ok
 clear ok
 cases up with
 |true=>
  have c0:=(zu G1).k.c0
  have c3:=(zu G1).k.c3
  have c4:=(zu G1).k.c4
  have c5:=(zu G1).k.c5
  have c6:=(zu G1).k.c6
  have c7:=(zu G1).k.c7
  have c8:=(zu G1).k.c8
  have lt:=(zu G1).k.lt.2
  go_wp2_with fail
  refine(zu BO _ (zu G1).rb).mono ?_
  rintro e u2 ⟨rfl,b2⟩
  have G2:=zh ((zu G1).step b2)
  clear b2 G1 c0
  clear c3 c4 c5 c6 c7 c8 lt
  cases vb with
  |false=>
   have V:=zh (show v=false from by
    cases e:v with
    |false=>rfl
    |true=>exact absurd (((zu HV).1 e).2.1 rfl).1 (fun h=>by have:=(zu HB).of h;simp at this))
   clear HV
   go_wp2
   go_ret
   exact⟨by rw[zu V];rfl,(zu G2).b⟩
  |true=>
  have OB:=zh ((zu HB).yes)
  obtain⟨sb,hs⟩:∃sb,okS sg=sb:=⟨_,rfl⟩
  have HS:=zh hs
  clear hs
  have c9:=(zu G2).k.c9
  have lt:=(zu G2).k.lt.2
  go_wp2_with fail
  refine(sSegOk _ sg sb (zu HS)).mono ?_
  rintro e u2 ⟨rfl,rfl⟩
  clear c9 lt
  cases sb with
  |false=>
   have V:=zh (show v=false from by
    cases e:v with
    |false=>rfl
    |true=>
     have:=(((zu HV).1 e).2.1 rfl).2.1
     rw[zu HS] at this
     exact absurd this (by simp))
   clear HV
   go_wp2
   go_ret
   exact⟨by rw[zu V];rfl,(zu G2).b⟩
  |true=>
  obtain⟨cb,hc⟩:∃cb,decide (0≤ct∧ct≤6)=cb:=⟨_,rfl⟩
  have HC:=zh hc
  clear hc
  have c10:=(zu G2).k.c10
  have lt:=(zu G2).k.lt.2
  go_wp2_with fail
  refine(sInB _ ct 0 6 cb (zu HC)).mono ?_
  rintro e u2 ⟨rfl,rfl⟩
  clear c10 lt
  have V:=zh (show v=cb from by
   cases cb with
   |false=>
    have nc:=of_decide_eq_false (zu HC)
    cases e:v with
    |false=>rfl
    |true=>exact absurd (((zu HV).1 e).2.1 rfl).2.2 nc
   |true=>exact(zu HV).2 ⟨zu OK,fun _=>⟨zu OB,zu HS,of_decide_eq_true (zu HC)⟩,fun h=>by simp at h⟩)
  clear HV
  go_wp2
  go_ret
  exact⟨by rw[zu V];rfl,(zu G2).b⟩
 |false=>
 have c0:=(zu G1).k.c0
 have lt:=(zu G1).k.lt.2
 go_wp2
 clear c0 lt
 go_loopw [3] (fun i wr=>∃(k:Nat),k≤x.ps.length∧i= .int .i64 k∧Hid (NoLate x.ps k)∧Hid (Eg w wr w.heap.size false x z sg ct)) (fun i _=>x.ps.length-(intOf i).toNat)
 case atStart=>exact⟨0,by omega,rfl,zh (fun j h=>absurd h (by omega)),G1⟩
 case round=>
  clear G1
  obtain⟨k,hk,rfl,HN,HG⟩:=hrel
  by_cases t:k<x.ps.length
  ·have kt:(k:Int)<x.ps.length:=by omega
   obtain⟨g,ea,lg,d0,d1,d2⟩:=cells_of (zu HG).r t
   have LN:=zh (fun e=>late_next (zu HN) (k:=k) e)
   have NV:=zh (show v=true→(elF x.ps k).2.2.toList.isEmpty=true from fun e=>(((zu HV).1 e).2.2 rfl).1 k t)
   generalize (elF x.ps k).2.2=s at *
   have c2:=(zu HG).k.c2
   have lt:=(zu HG).k.lt.2
   rw[ea] at c2
   clear d0 d1 HN
   obtain⟨eb,heb⟩:∃eb,s.toList.isEmpty=eb:=⟨_,rfl⟩
   rw[heb] at LN NV
   cases eb with
   |true=>
    have N:=zh ((zu LN) rfl)
    clear LN NV
    go_wp2
    go_roundw
    case rel=>exact⟨k+1,by omega,by go_num,N,HG⟩
    case measure=>simp[intOf];omega
   |false=>
    have V:=zh (show v=false from by
     cases e:v with
     |false=>rfl
     |true=>exact absurd ((zu NV) e) (by simp))
    clear LN NV HV
    go_wp2
    go_ret
    exact⟨by rw[zu V];rfl,(zu HG).b⟩
  ·have e:k=x.ps.length:=by omega
   have HN2:=zh (show NoLate x.ps x.ps.length from by rw[←e];exact zu HN)
   clear HN
   subst e
   obtain⟨nb,hnb⟩:=says_of (z.b=noB)
   have NB:=zh hnb
   clear hnb
   have c2:=(zu HG).k.c2
   have c3:=(zu HG).k.c3
   have c4:=(zu HG).k.c4
   have c5:=(zu HG).k.c5
   have c6:=(zu HG).k.c6
   have c7:=(zu HG).k.c7
   have c8:=(zu HG).k.c8
   have lt:=(zu HG).k.lt.2
   go_wp2_with fail
   refine(zu BS _ (zu HG).rb nb (zu NB)).mono ?_
   rintro e u2 ⟨rfl,b2⟩
   have G2:=zh ((zu HG).step b2)
   clear b2 HG
   clear c2 c3 c4 c5 c6 c7 c8 lt
   obtain⟨s0,hs0⟩:∃b,(sg==0)=b:=⟨_,rfl⟩
   obtain⟨s1,hs1⟩:∃b,(ct==0)=b:=⟨_,rfl⟩
   have V:=zh (show v=(nb&&s0&&s1) from by
    have A:v=true↔(nb=true∧s0=true∧s1=true):=by
     rw[zu HV,←hs0,←hs1]
     constructor
     ·rintro⟨_,_,h⟩
      obtain⟨_,h1,h2,h3⟩:=h rfl
      exact⟨(zu NB).of h1,by simp[h2],by simp[h3]⟩
     ·rintro⟨h1,h2,h3⟩
      subst h1
      exact⟨zu OK,fun h=>by simp at h,fun _=>⟨zu HN2,(zu NB).yes,by simpa using h2,by simpa using h3⟩⟩
    revert A;clear HV NB HN2;cases v<;>cases nb<;>cases s0<;>cases s1<;>simp)
   have c9:=(zu G2).k.c9
   have c10:=(zu G2).k.c10
   have lt:=(zu G2).k.lt.2
   clear HV NB HN2
   cases nb with
   |false=>
    go_wp2
    go_ret
    exact⟨by rw[zu V];rfl,(zu G2).b⟩
   |true=>
   cases s0 with
   |false=>
    go_wp2
    go_ret
    exact⟨by rw[zu V];rfl,(zu G2).b⟩
   |true=>
   go_wp2
   go_ret
   exact⟨by rw[zu V];simp,(zu G2).b⟩
end SEngOk17
namespace SEngSv17
open Fil14 DkH14 SDk14 EBx17 EFin17 Bx16
open BMem (Bx Rd Ow)
open IBalsFit (one_more)
theorem bx7_all{w:World}{base g:Nat}{v0 v1 v2 v3 v4 v5 v6:Value}(h:Bx7 w base g v0 v1 v2 v3 v4 v5 v6)(u0 u1 u2 u3 u4 u5 u6:Value):Bx7 ((((((((w).setCell ⟨g,0,none⟩ (u0)).setCell ⟨g,1,none⟩ (u1)).setCell ⟨g,2,none⟩ (u2)).setCell ⟨g,3,none⟩ (u3)).setCell ⟨g,4,none⟩ (u4)).setCell ⟨g,5,none⟩ (u5)).setCell ⟨g,6,none⟩ (u6)) base g u0 u1 u2 u3 u4 u5 u6∧w.grownBy ((((((((w).setCell ⟨g,0,none⟩ (u0)).setCell ⟨g,1,none⟩ (u1)).setCell ⟨g,2,none⟩ (u2)).setCell ⟨g,3,none⟩ (u3)).setCell ⟨g,4,none⟩ (u4)).setCell ⟨g,5,none⟩ (u5)).setCell ⟨g,6,none⟩ (u6)) (some g):=by
 have t0:=h.set0 u0
 have t1:=t0.1.set1 u1
 have t2:=t1.1.set2 u2
 have t3:=t2.1.set3 u3
 have t4:=t3.1.set4 u4
 have t5:=t4.1.set5 u5
 have t6:=t5.1.set6 u6
 exact⟨t6.1,(grow_grow (grow_grow (grow_grow (grow_grow (grow_grow (grow_grow t0.2 t1.2) t2.2) t3.2) t4.2) t5.2) t6.2)⟩
theorem ow_kept{w w':World}{base g:Nat}{z:Bx}(h:Ow w base z)(k:w.grownBy w' (some g))(n:g<base):Ow w' base z:=
 ⟨row_kept2 h.oa k n,row_kept2 h.oi k n,row_kept2 h.ob k n,row_kept2 h.ol k n,row_kept2 h.ot k n⟩
theorem ow_base{w:World}{base base':Nat}{z:Bx}(h:Ow w base z)(n:base'≤base):Ow w base' z:=
 ⟨row_base2 h.oa n,row_base2 h.oi n,row_base2 h.ob n,row_base2 h.ol n,row_base2 h.ot n⟩
theorem sSaveOf(w:World)(up:Bool)(x:Dx)(z:Bx)(sg ct:Int)(hr:RdD w x)(hy:Rd w z)(hs:0≤sg∧sg≤19):
  Calls Tryz.prog 15 #[.agg #[.bool up,.int .i64 x.room,.slice x.a x.ps.length x.c,.slice (some ⟨z.ga,0,none⟩) z.b.ac.length z.ca,.slice (some ⟨z.gi,0,none⟩) z.b.ic.length z.ci,.slice (some ⟨z.gb,0,none⟩) z.b.bs.length z.cb,.slice (some ⟨z.gl,0,none⟩) z.b.ls.length z.cl,.slice (some ⟨z.gt,0,none⟩) z.b.ts.length z.ct,.int .i64 z.b.lot,.int .i64 sg,.int .i64 ct]] w fun e w'=>∃y:Bx,y.b=z.b∧e= .returned (.agg #[.int .i64 ((sg+1)%20),.slice (some ⟨y.ga,0,none⟩) y.b.ac.length y.ca,.slice (some ⟨y.gi,0,none⟩) y.b.ic.length y.ci,.slice (some ⟨y.gb,0,none⟩) y.b.bs.length y.cb,.slice (some ⟨y.gl,0,none⟩) y.b.ls.length y.cl,.slice (some ⟨y.gt,0,none⟩) y.b.ts.length y.ct,.int .i64 y.b.lot])∧Ow w' w.heap.size y∧Below w.heap.size w w':=by
 have bA:=one_more (w.alloc (.cells #[.bool up,.int .i64 x.room,.slice x.a x.ps.length x.c,.slice (some ⟨z.ga,0,none⟩) z.b.ac.length z.ca,.slice (some ⟨z.gi,0,none⟩) z.b.ic.length z.ci,.slice (some ⟨z.gb,0,none⟩) z.b.bs.length z.cb,.slice (some ⟨z.gl,0,none⟩) z.b.ls.length z.cl,.slice (some ⟨z.gt,0,none⟩) z.b.ts.length z.ct,.int .i64 z.b.lot,.int .i64 sg,.int .i64 ct] 46)) (.cells #[.int .i64 0,.slice none 0 0,.slice none 0 0,.slice none 0 0,.slice none 0 0,.slice none 0 0,.int .i64 0] 59)
 have GW:=zh ((Eg.made hr hy (Below.refl _ _) up sg ct).step bA)
 have KW:=zh (Bx7.made (w:=w.alloc (.cells #[.bool up,.int .i64 x.room,.slice x.a x.ps.length x.c,.slice (some ⟨z.ga,0,none⟩) z.b.ac.length z.ca,.slice (some ⟨z.gi,0,none⟩) z.b.ic.length z.ci,.slice (some ⟨z.gb,0,none⟩) z.b.bs.length z.cb,.slice (some ⟨z.gl,0,none⟩) z.b.ls.length z.cl,.slice (some ⟨z.gt,0,none⟩) z.b.ts.length z.ct,.int .i64 z.b.lot,.int .i64 sg,.int .i64 ct] 46)) (base:=w.heap.size) (g:=w.heap.size+1) (.int .i64 0) (.slice none 0 0) (.slice none 0 0) (.slice none 0 0) (.slice none 0 0) (.slice none 0 0) (.int .i64 0) (by simp) (by simp))
 have CB:=zh (fun u (h:Rd u z)=>SCopy.sCopy u z h)
 have HS:=zh hs
 clear hr hy bA hs
 go_enter Tryz.func15,Tryz.ntmps15
 go_wp2_with fail
 generalize (w.alloc (.cells #[.bool up,.int .i64 x.room,.slice x.a x.ps.length x.c,.slice (some ⟨z.ga,0,none⟩) z.b.ac.length z.ca,.slice (some ⟨z.gi,0,none⟩) z.b.ic.length z.ci,.slice (some ⟨z.gb,0,none⟩) z.b.bs.length z.cb,.slice (some ⟨z.gl,0,none⟩) z.b.ls.length z.cl,.slice (some ⟨z.gt,0,none⟩) z.b.ts.length z.ct,.int .i64 z.b.lot,.int .i64 sg,.int .i64 ct] 46)).alloc (.cells #[.int .i64 0,.slice none 0 0,.slice none 0 0,.slice none 0 0,.slice none 0 0,.slice none 0 0,.int .i64 0] 59)=W at *
 have wl:=(zu KW).lt.2
 refine wp_region_held_drew (S:=(fun w'=>w'.cell? ⟨w.heap.size,3,none⟩=some (.slice (some ⟨z.ga,0,none⟩) z.b.ac.length z.ca)∧w'.cell? ⟨w.heap.size,4,none⟩=some (.slice (some ⟨z.gi,0,none⟩) z.b.ic.length z.ci)∧w'.cell? ⟨w.heap.size,5,none⟩=some (.slice (some ⟨z.gb,0,none⟩) z.b.bs.length z.cb)∧w'.cell? ⟨w.heap.size,6,none⟩=some (.slice (some ⟨z.gl,0,none⟩) z.b.ls.length z.cl)∧w'.cell? ⟨w.heap.size,7,none⟩=some (.slice (some ⟨z.gt,0,none⟩) z.b.ts.length z.ct)∧w'.cell? ⟨w.heap.size,8,none⟩=some (.int .i64 z.b.lot)∧w'.cell? ⟨w.heap.size,9,none⟩=some (.int .i64 sg))) (by kernel_rfl) ⟨(zu GW).k.c3,(zu GW).k.c4,(zu GW).k.c5,(zu GW).k.c6,(zu GW).k.c7,(zu GW).k.c8,(zu GW).k.c9⟩ (fun hHeld=>?_)
 refine zT 0 3 (.pointer (some ⟨w.heap.size,9,none⟩)) rfl hHeld ?_
 refine zT 1 4 (.int .i64 sg) rfl hHeld ?_
 refine zT 3 6 (.pointer (some ⟨w.heap.size,3,none⟩)) rfl hHeld ?_
 refine zT 4 7 (.agg #[.slice (some ⟨z.ga,0,none⟩) z.b.ac.length z.ca,.slice (some ⟨z.gi,0,none⟩) z.b.ic.length z.ci,.slice (some ⟨z.gb,0,none⟩) z.b.bs.length z.cb,.slice (some ⟨z.gl,0,none⟩) z.b.ls.length z.cl,.slice (some ⟨z.gt,0,none⟩) z.b.ts.length z.ct,.int .i64 z.b.lot]) rfl hHeld ?_
 try simp only[Act.put,zA,zB,zC]
 refine zR 2 rfl (fun K hK=>?_)
 go_simp
 go_wp2_with fail
 first|refine(SAft17.sAfter W sg (zu HS)).mono ?_|refine(SAft17.sAfter W.drew sg (zu HS)).mono ?_
 rintro e v1 ⟨rfl,hq⟩
 have b6:Below W.heap.size W v1:=by first|(subst hq;exact Below.refl _ _)|(subst hq;exact(Below.refl _ _).drew)
 clear hq
 have b7:Below W.heap.size W v1:=⟨b6.os,b6.tape,b6.output,b6.size,b6.block⟩
 have sv1:W.heap.size≤v1.heap.size:=b6.size
 replace GW:=zh ((zu GW).step b7)
 replace KW:=zh ((zu KW).below b7 (zu KW).lt.2)
 clear b7 b6
 go_wp2_with fail
 refine hK.out _ _ ⟨(zu GW).k.c3,(zu GW).k.c4,(zu GW).k.c5,(zu GW).k.c6,(zu GW).k.c7,(zu GW).k.c8,(zu GW).k.c9⟩ (fun hHeld=>?_)
 clear hK K
 try simp only[Act.put,zA,zB,zC]
 refine zR 5 rfl (fun K hK=>?_)
 go_simp
 go_wp2_with fail
 first|refine(zu CB v1 (show Rd v1 z from(zu GW).rb)).mono ?_|refine(zu CB v1.drew (show Rd v1.drew z from(zu GW).rb.below (Below.refl _ _).drew)).mono ?_
 rintro e v2 ⟨z1,zb,rfl,oz,b6⟩
 have b7:Below v1.heap.size v1 v2:=⟨b6.os,b6.tape,b6.output,b6.size,b6.block⟩
 have sv2:v1.heap.size≤v2.heap.size:=b6.size
 replace GW:=zh ((zu GW).step b7)
 replace KW:=zh ((zu KW).below b7 (zu KW).lt.2)
 have ZE:=zh zb
 have OZ:=zh (show Ow v2 v1.heap.size z1 from oz)
 have wX:w.heap.size+1<v1.heap.size:=by omega
 clear oz zb
 clear b7 b6
 go_wp2_with fail
 refine hK.out _ _ ⟨(zu GW).k.c3,(zu GW).k.c4,(zu GW).k.c5,(zu GW).k.c6,(zu GW).k.c7,(zu GW).k.c8,(zu GW).k.c9⟩ (fun hHeld=>?_)
 clear hK K
 refine zT 6 9 (.agg #[.int .i64 ((sg+1)%20),.slice (some ⟨z1.ga,0,none⟩) z1.b.ac.length z1.ca,.slice (some ⟨z1.gi,0,none⟩) z1.b.ic.length z1.ci,.slice (some ⟨z1.gb,0,none⟩) z1.b.bs.length z1.cb,.slice (some ⟨z1.gl,0,none⟩) z1.b.ls.length z1.cl,.slice (some ⟨z1.gt,0,none⟩) z1.b.ts.length z1.ct,.int .i64 z1.b.lot]) rfl hHeld ?_
 try simp only[Act.put,zA,zB,zC]
 have lk:=(zu KW).lt.2
 have EN0:=bx7_all (zu KW) (.int .i64 ((sg+1)%20)) (.slice (some ⟨z1.ga,0,none⟩) z1.b.ac.length z1.ca) (.slice (some ⟨z1.gi,0,none⟩) z1.b.ic.length z1.ci) (.slice (some ⟨z1.gb,0,none⟩) z1.b.bs.length z1.cb) (.slice (some ⟨z1.gl,0,none⟩) z1.b.ls.length z1.cl) (.slice (some ⟨z1.gt,0,none⟩) z1.b.ts.length z1.ct) (.int .i64 z1.b.lot)
 have EN:=zh (show Below w.heap.size w ((((((((v2).setCell ⟨w.heap.size+1,0,none⟩ (.int .i64 ((sg+1)%20))).setCell ⟨w.heap.size+1,1,none⟩ (.slice (some ⟨z1.ga,0,none⟩) z1.b.ac.length z1.ca)).setCell ⟨w.heap.size+1,2,none⟩ (.slice (some ⟨z1.gi,0,none⟩) z1.b.ic.length z1.ci)).setCell ⟨w.heap.size+1,3,none⟩ (.slice (some ⟨z1.gb,0,none⟩) z1.b.bs.length z1.cb)).setCell ⟨w.heap.size+1,4,none⟩ (.slice (some ⟨z1.gl,0,none⟩) z1.b.ls.length z1.cl)).setCell ⟨w.heap.size+1,5,none⟩ (.slice (some ⟨z1.gt,0,none⟩) z1.b.ts.length z1.ct)).setCell ⟨w.heap.size+1,6,none⟩ (.int .i64 z1.b.lot))∧Bx7 ((((((((v2).setCell ⟨w.heap.size+1,0,none⟩ (.int .i64 ((sg+1)%20))).setCell ⟨w.heap.size+1,1,none⟩ (.slice (some ⟨z1.ga,0,none⟩) z1.b.ac.length z1.ca)).setCell ⟨w.heap.size+1,2,none⟩ (.slice (some ⟨z1.gi,0,none⟩) z1.b.ic.length z1.ci)).setCell ⟨w.heap.size+1,3,none⟩ (.slice (some ⟨z1.gb,0,none⟩) z1.b.bs.length z1.cb)).setCell ⟨w.heap.size+1,4,none⟩ (.slice (some ⟨z1.gl,0,none⟩) z1.b.ls.length z1.cl)).setCell ⟨w.heap.size+1,5,none⟩ (.slice (some ⟨z1.gt,0,none⟩) z1.b.ts.length z1.ct)).setCell ⟨w.heap.size+1,6,none⟩ (.int .i64 z1.b.lot)) w.heap.size (w.heap.size+1) (.int .i64 ((sg+1)%20)) (.slice (some ⟨z1.ga,0,none⟩) z1.b.ac.length z1.ca) (.slice (some ⟨z1.gi,0,none⟩) z1.b.ic.length z1.ci) (.slice (some ⟨z1.gb,0,none⟩) z1.b.bs.length z1.cb) (.slice (some ⟨z1.gl,0,none⟩) z1.b.ls.length z1.cl) (.slice (some ⟨z1.gt,0,none⟩) z1.b.ts.length z1.ct) (.int .i64 z1.b.lot)∧Ow ((((((((v2).setCell ⟨w.heap.size+1,0,none⟩ (.int .i64 ((sg+1)%20))).setCell ⟨w.heap.size+1,1,none⟩ (.slice (some ⟨z1.ga,0,none⟩) z1.b.ac.length z1.ca)).setCell ⟨w.heap.size+1,2,none⟩ (.slice (some ⟨z1.gi,0,none⟩) z1.b.ic.length z1.ci)).setCell ⟨w.heap.size+1,3,none⟩ (.slice (some ⟨z1.gb,0,none⟩) z1.b.bs.length z1.cb)).setCell ⟨w.heap.size+1,4,none⟩ (.slice (some ⟨z1.gl,0,none⟩) z1.b.ls.length z1.cl)).setCell ⟨w.heap.size+1,5,none⟩ (.slice (some ⟨z1.gt,0,none⟩) z1.b.ts.length z1.ct)).setCell ⟨w.heap.size+1,6,none⟩ (.int .i64 z1.b.lot)) w.heap.size z1∧v2.grownBy ((((((((v2).setCell ⟨w.heap.size+1,0,none⟩ (.int .i64 ((sg+1)%20))).setCell ⟨w.heap.size+1,1,none⟩ (.slice (some ⟨z1.ga,0,none⟩) z1.b.ac.length z1.ca)).setCell ⟨w.heap.size+1,2,none⟩ (.slice (some ⟨z1.gi,0,none⟩) z1.b.ic.length z1.ci)).setCell ⟨w.heap.size+1,3,none⟩ (.slice (some ⟨z1.gb,0,none⟩) z1.b.bs.length z1.cb)).setCell ⟨w.heap.size+1,4,none⟩ (.slice (some ⟨z1.gl,0,none⟩) z1.b.ls.length z1.cl)).setCell ⟨w.heap.size+1,5,none⟩ (.slice (some ⟨z1.gt,0,none⟩) z1.b.ts.length z1.ct)).setCell ⟨w.heap.size+1,6,none⟩ (.int .i64 z1.b.lot)) (some (w.heap.size+1)) from⟨grow_low (zu GW).b EN0.2 ⟨by omega,(zu GW).b.size⟩,EN0.1,ow_base (ow_kept (zu OZ) EN0.2 wX) (by omega),EN0.2⟩)
 clear EN0
 have f0:=(zu KW).free 0
 have b0:=(zu KW).c0
 have f1:=(zu KW).free 1
 have b1:=(zu KW).c1
 have f2:=(zu KW).free 2
 have b2:=(zu KW).c2
 have f3:=(zu KW).free 3
 have b3:=(zu KW).c3
 have f4:=(zu KW).free 4
 have b4:=(zu KW).c4
 have f5:=(zu KW).free 5
 have b5:=(zu KW).c5
 have f6:=(zu KW).free 6
 have b6:=(zu KW).c6
 have kc:∀o,((((((((v2).setCell ⟨w.heap.size+1,0,none⟩ (.int .i64 ((sg+1)%20))).setCell ⟨w.heap.size+1,1,none⟩ (.slice (some ⟨z1.ga,0,none⟩) z1.b.ac.length z1.ca)).setCell ⟨w.heap.size+1,2,none⟩ (.slice (some ⟨z1.gi,0,none⟩) z1.b.ic.length z1.ci)).setCell ⟨w.heap.size+1,3,none⟩ (.slice (some ⟨z1.gb,0,none⟩) z1.b.bs.length z1.cb)).setCell ⟨w.heap.size+1,4,none⟩ (.slice (some ⟨z1.gl,0,none⟩) z1.b.ls.length z1.cl)).setCell ⟨w.heap.size+1,5,none⟩ (.slice (some ⟨z1.gt,0,none⟩) z1.b.ts.length z1.ct)).setCell ⟨w.heap.size+1,6,none⟩ (.int .i64 z1.b.lot)).cell? ⟨w.heap.size,o,none⟩=v2.cell? ⟨w.heap.size,o,none⟩:=fun o=>App14.kcell (zu EN).2.2.2 o (by omega) (by omega)
 refine zR 7 rfl (fun K hK=>?_)
 go_simp
 refine hK.out _ _ ⟨(kc 3).trans (zu GW).k.c3,(kc 4).trans (zu GW).k.c4,(kc 5).trans (zu GW).k.c5,(kc 6).trans (zu GW).k.c6,(kc 7).trans (zu GW).k.c7,(kc 8).trans (zu GW).k.c8,(kc 9).trans (zu GW).k.c9⟩ (fun hHeld=>?_)
 clear hK K
 try simp only[Act.put,zA,zB,zC]
 refine wpAnyH_done (by kernel_rfl) ?_ _
 clear f0 b0 f1 b1 f2 b2 f3 b3 f4 b4 f5 b5 f6 b6
 generalize (((((((v2).setCell ⟨w.heap.size+1,0,none⟩ (.int .i64 ((sg+1)%20))).setCell ⟨w.heap.size+1,1,none⟩ (.slice (some ⟨z1.ga,0,none⟩) z1.b.ac.length z1.ca)).setCell ⟨w.heap.size+1,2,none⟩ (.slice (some ⟨z1.gi,0,none⟩) z1.b.ic.length z1.ci)).setCell ⟨w.heap.size+1,3,none⟩ (.slice (some ⟨z1.gb,0,none⟩) z1.b.bs.length z1.cb)).setCell ⟨w.heap.size+1,4,none⟩ (.slice (some ⟨z1.gl,0,none⟩) z1.b.ls.length z1.cl)).setCell ⟨w.heap.size+1,5,none⟩ (.slice (some ⟨z1.gt,0,none⟩) z1.b.ts.length z1.ct)).setCell ⟨w.heap.size+1,6,none⟩ (.int .i64 z1.b.lot)=U at *
 have r0:=(zu EN).2.1
 go_wp2
 have q0:=r0.c0
 have q1:=r0.c1
 have q2:=r0.c2
 have q3:=r0.c3
 have q4:=r0.c4
 have q5:=r0.c5
 have q6:=r0.c6
 refine bodyPost_ret (v:= .agg #[.int .i64 ((sg+1)%20),.slice (some ⟨z1.ga,0,none⟩) z1.b.ac.length z1.ca,.slice (some ⟨z1.gi,0,none⟩) z1.b.ic.length z1.ci,.slice (some ⟨z1.gb,0,none⟩) z1.b.bs.length z1.cb,.slice (some ⟨z1.gl,0,none⟩) z1.b.ls.length z1.cl,.slice (some ⟨z1.gt,0,none⟩) z1.b.ts.length z1.ct,.int .i64 z1.b.lot]) (by simp[results,Tryz.results15,go_sem,q0,q1,q2,q3,q4,q5,q6]) rfl ?_
 exact⟨z1,zu ZE,rfl,(zu EN).2.2.1,(zu EN).1⟩
end SEngSv17
namespace CrE17
open Fil14 DiskH14 DkH14 SDk14 SOk14 EFin17 SEngOk17 SStep16 SWrite16 LawW16
open BMem (Small)
open Bks (Bk)
open SSave16 (saveD)
open SCrash14 (crashD)
noncomputable def downE (up:Bool) (room:Int) (ps:List TF) (b:Bk) (sg ct:Int) (d:Int×List TF) (keep:Int):PE×Int:=if up=true then((false,crashD d.1 d.2 keep,⟨[],[],[],[],[],0⟩,0,0),0) else((up,(room,ps),b,sg,ct),2)
noncomputable def tornF (tx:ByteArray×Bool):Nat→Int→Int×List TF→Int×List TF
 |0,_,cur=>cur
 |n+1,k,cur=>if(stepD cur.1 cur.2 tx k).2=0 then tornF tx n (k+1) (stepD cur.1 cur.2 tx k).1 else cur
noncomputable def tornD (room:Int) (ps:List TF) (tx:ByteArray×Bool) (steps:Int):Int×List TF:=if 0≤steps∧steps≤4 then tornF tx steps.toNat 0 (room,ps) else(room,ps)
noncomputable def tornE (v vb up:Bool) (room:Int) (ps:List TF) (b:Bk) (sg ct steps keep:Int):PE×Int:=if v=true then downE up room ps b sg ct (tornD room ps (saveD ((sg+1)%20) b vb) steps) keep else(noE,1)
def FitE(r:PE):Prop:=Small r.2.2.1∧r.2.1.2.length≤1048576
theorem fit_no:FitE noE:=⟨⟨by simp[noE],by simp[noE],by simp[noE],by simp[noE],by simp[noE]⟩,by simp[noE]⟩
theorem fit_same{up:Bool}{room:Int}{ps:List TF}{b:Bk}{sg ct:Int}(hs:Small b)(h:ps.length≤1048576):FitE (up,(room,ps),b,sg,ct):=⟨hs,h⟩
theorem len_crash{room:Int}{ps:List TF}{keep:Int}(h:ps.length≤1048576):(crashD room ps keep).2.length≤1048576:=by
 unfold SCrash14.crashD
 split
 ·simpa using h
 ·simp
theorem fit_down{up:Bool}{room:Int}{ps:List TF}{b:Bk}{sg ct keep:Int}{d:Int×List TF}(hs:Small b)(h:ps.length≤1048576)(hd:d.2.length≤1048576):FitE (downE up room ps b sg ct d keep).1:=by
 unfold downE
 split
 ·exact⟨⟨by simp,by simp,by simp,by simp,by simp⟩,len_crash hd⟩
 ·exact fit_same hs h
theorem len_torn(tx:ByteArray×Bool):∀n k (cur:Int×List TF),cur.2.length≤1048576→(tornF tx n k cur).2.length≤1048576
 |0,k,cur=>fun h=>h
 |n+1,k,cur=>fun h=>by
  unfold tornF
  split
  ·exact len_torn tx n _ _ (len_step tx k h)
  ·exact h
theorem len_tornD{room:Int}{ps:List TF}{tx:ByteArray×Bool}{steps:Int}(h:ps.length≤1048576):(tornD room ps tx steps).2.length≤1048576:=by
 unfold tornD
 split
 ·exact len_torn tx _ _ _ h
 ·exact h
theorem fit_torn{v vb up:Bool}{room:Int}{ps:List TF}{b:Bk}{sg ct steps keep:Int}(hs:Small b)(h:ps.length≤1048576):FitE (tornE v vb up room ps b sg ct steps keep).1:=by
 unfold tornE
 split
 ·exact fit_down hs h (len_tornD h)
 ·exact fit_no
end CrE17
namespace SEngCr17
open Fil14 OpensF14 DiskH14 DkH14 SDk14 SOk14 SRd14 SCom14 Law14 EBx17 EFin17 SEngOk17 SEngSv17 LawW16 BMemV13 VB13 CrE17
open BMem (Bx Rd Ow)
open Bks (Bk Ok)
open BHelp (Ix)
open Lots (Says)
open SCrash14 (crashD)
theorem sDown(w:World)(up:Bool)(x:Dx)(z:Bx)(sg ct:Int)(xd:Dx)(keep:Int)(hr:RdD w x)(hy:Rd w z)(hd:RdD w xd)(hz:sumZ xd.ps≤1048576):
  Calls Tryz.prog 16 #[.agg #[.bool up,.int .i64 x.room,.slice x.a x.ps.length x.c,.slice (some ⟨z.ga,0,none⟩) z.b.ac.length z.ca,.slice (some ⟨z.gi,0,none⟩) z.b.ic.length z.ci,.slice (some ⟨z.gb,0,none⟩) z.b.bs.length z.cb,.slice (some ⟨z.gl,0,none⟩) z.b.ls.length z.cl,.slice (some ⟨z.gt,0,none⟩) z.b.ts.length z.ct,.int .i64 z.b.lot,.int .i64 sg,.int .i64 ct],.agg #[.int .i64 xd.room,.slice xd.a xd.ps.length xd.c],.int .i64 keep] w (ToldE (downE up x.room x.ps z.b sg ct (xd.room,xd.ps) keep) w):=by
 have GW:=zh (((Eg.made hr hy (Below.refl _ _) up sg ct).step (one_more _ (.cells #[.int .i64 xd.room,.slice xd.a xd.ps.length xd.c] 37))).step (one_more _ (.cells #[.bool false,.int .i64 0,.slice none 0 0,.slice none 0 0,.slice none 0 0,.slice none 0 0,.slice none 0 0,.slice none 0 0,.int .i64 0,.int .i64 0,.int .i64 0] 46)))
 have KW:=zh (Bx11.made (w:=(w.alloc (.cells #[.bool up,.int .i64 x.room,.slice x.a x.ps.length x.c,.slice (some ⟨z.ga,0,none⟩) z.b.ac.length z.ca,.slice (some ⟨z.gi,0,none⟩) z.b.ic.length z.ci,.slice (some ⟨z.gb,0,none⟩) z.b.bs.length z.cb,.slice (some ⟨z.gl,0,none⟩) z.b.ls.length z.cl,.slice (some ⟨z.gt,0,none⟩) z.b.ts.length z.ct,.int .i64 z.b.lot,.int .i64 sg,.int .i64 ct] 46)).alloc (.cells #[.int .i64 xd.room,.slice xd.a xd.ps.length xd.c] 37)) (base:=w.heap.size) (g:=w.heap.size+1+1) (.bool false) (.int .i64 0) (.slice none 0 0) (.slice none 0 0) (.slice none 0 0) (.slice none 0 0) (.slice none 0 0) (.slice none 0 0) (.int .i64 0) (.int .i64 0) (.int .i64 0) (by simp;omega) (by simp))
 have KD:=zh (show Kd (((w.alloc (.cells #[.bool up,.int .i64 x.room,.slice x.a x.ps.length x.c,.slice (some ⟨z.ga,0,none⟩) z.b.ac.length z.ca,.slice (some ⟨z.gi,0,none⟩) z.b.ic.length z.ci,.slice (some ⟨z.gb,0,none⟩) z.b.bs.length z.cb,.slice (some ⟨z.gl,0,none⟩) z.b.ls.length z.cl,.slice (some ⟨z.gt,0,none⟩) z.b.ts.length z.ct,.int .i64 z.b.lot,.int .i64 sg,.int .i64 ct] 46)).alloc (.cells #[.int .i64 xd.room,.slice xd.a xd.ps.length xd.c] 37)).alloc (.cells #[.bool false,.int .i64 0,.slice none 0 0,.slice none 0 0,.slice none 0 0,.slice none 0 0,.slice none 0 0,.slice none 0 0,.int .i64 0,.int .i64 0,.int .i64 0] 46)) (w.heap.size+1) xd from by have:=kd_low (Kd.made (w.alloc (.cells #[.bool up,.int .i64 x.room,.slice x.a x.ps.length x.c,.slice (some ⟨z.ga,0,none⟩) z.b.ac.length z.ca,.slice (some ⟨z.gi,0,none⟩) z.b.ic.length z.ci,.slice (some ⟨z.gb,0,none⟩) z.b.bs.length z.cb,.slice (some ⟨z.gl,0,none⟩) z.b.ls.length z.cl,.slice (some ⟨z.gt,0,none⟩) z.b.ts.length z.ct,.int .i64 z.b.lot,.int .i64 sg,.int .i64 ct] 46)) xd 37) (one_more ((w.alloc (.cells #[.bool up,.int .i64 x.room,.slice x.a x.ps.length x.c,.slice (some ⟨z.ga,0,none⟩) z.b.ac.length z.ca,.slice (some ⟨z.gi,0,none⟩) z.b.ic.length z.ci,.slice (some ⟨z.gb,0,none⟩) z.b.bs.length z.cb,.slice (some ⟨z.gl,0,none⟩) z.b.ls.length z.cl,.slice (some ⟨z.gt,0,none⟩) z.b.ts.length z.ct,.int .i64 z.b.lot,.int .i64 sg,.int .i64 ct] 46)).alloc (.cells #[.int .i64 xd.room,.slice xd.a xd.ps.length xd.c] 37)) (.cells #[.bool false,.int .i64 0,.slice none 0 0,.slice none 0 0,.slice none 0 0,.slice none 0 0,.slice none 0 0,.slice none 0 0,.int .i64 0,.int .i64 0,.int .i64 0] 46)) (by simp);simpa using this)
 have RD:=zh (hd.below (zu GW).b)
 have CR:=zh (fun u (h:RdD u xd)=>SCrash14.sDiskCrash u xd keep h hz)
 have ws:(((w.alloc (.cells #[.bool up,.int .i64 x.room,.slice x.a x.ps.length x.c,.slice (some ⟨z.ga,0,none⟩) z.b.ac.length z.ca,.slice (some ⟨z.gi,0,none⟩) z.b.ic.length z.ci,.slice (some ⟨z.gb,0,none⟩) z.b.bs.length z.cb,.slice (some ⟨z.gl,0,none⟩) z.b.ls.length z.cl,.slice (some ⟨z.gt,0,none⟩) z.b.ts.length z.ct,.int .i64 z.b.lot,.int .i64 sg,.int .i64 ct] 46)).alloc (.cells #[.int .i64 xd.room,.slice xd.a xd.ps.length xd.c] 37)).alloc (.cells #[.bool false,.int .i64 0,.slice none 0 0,.slice none 0 0,.slice none 0 0,.slice none 0 0,.slice none 0 0,.slice none 0 0,.int .i64 0,.int .i64 0,.int .i64 0] 46)).heap.size=w.heap.size+3:=by simp
 have RE:=zh (show downE up x.room x.ps z.b sg ct (xd.room,xd.ps) keep=if up=true then((false,crashD xd.room xd.ps keep,⟨[],[],[],[],[],0⟩,0,0),0) else((up,(x.room,x.ps),z.b,sg,ct),2) from rfl)
 generalize downE up x.room x.ps z.b sg ct (xd.room,xd.ps) keep=rr at *
 generalize crashD xd.room xd.ps keep=cc at *
 clear hr hy hd hz
 cases up with
 |false=>
  obtain⟨c0,c1,c2,c3,c4,c5,c6,c7,c8,c9,c10⟩:=(zu GW).k.cs
  have lt:=(zu GW).k.lt.2
  go_enter Tryz.func16,Tryz.ntmps16
  go_wp2_with fail
  generalize ((w.alloc (.cells #[.bool false,.int .i64 x.room,.slice x.a x.ps.length x.c,.slice (some ⟨z.ga,0,none⟩) z.b.ac.length z.ca,.slice (some ⟨z.gi,0,none⟩) z.b.ic.length z.ci,.slice (some ⟨z.gb,0,none⟩) z.b.bs.length z.cb,.slice (some ⟨z.gl,0,none⟩) z.b.ls.length z.cl,.slice (some ⟨z.gt,0,none⟩) z.b.ts.length z.ct,.int .i64 z.b.lot,.int .i64 sg,.int .i64 ct] 46)).alloc (.cells #[.int .i64 xd.room,.slice xd.a xd.ps.length xd.c] 37)).alloc (.cells #[.bool false,.int .i64 0,.slice none 0 0,.slice none 0 0,.slice none 0 0,.slice none 0 0,.slice none 0 0,.slice none 0 0,.int .i64 0,.int .i64 0,.int .i64 0] 46)=W at *
  have E:=zh (show rr=((false,(x.room,x.ps),z.b,sg,ct),2) by rw[zu RE,if_neg (show ¬(false=true) by simp)])
  clear RE CR KD RD
  refine(SEngCp17.sCopyE _ false x z sg ct (zu GW).r (zu GW).rb).mono ?_
  rintro e u9 ⟨x1,y1,hx1,hy1,rfl,ox,oy,b9⟩
  have G9:=zh ((zu GW).step b9)
  have K9:=zh ((zu KW).below b9 (zu KW).lt.2)
  have OX:=zh ox
  have OY:=zh oy
  have HX:=zh hx1
  have HYY:=zh hy1
  have lk:=(zu KW).lt.2
  clear b9 ox oy hx1 hy1
  clear c0 c1 c2 c3 c4 c5 c6 c7 c8 c9 c10 lt
  obtain⟨U,hU⟩:∃U,(((((((((((u9).setCell ⟨w.heap.size+1+1,0,none⟩ (.bool false)).setCell ⟨w.heap.size+1+1,1,none⟩ (.int .i64 x1.room)).setCell ⟨w.heap.size+1+1,2,none⟩ (.slice x1.a x1.ps.length x1.c)).setCell ⟨w.heap.size+1+1,3,none⟩ (.slice y1.aa y1.b.ac.length y1.ca)).setCell ⟨w.heap.size+1+1,4,none⟩ (.slice y1.ai y1.b.ic.length y1.ci)).setCell ⟨w.heap.size+1+1,5,none⟩ (.slice y1.ab y1.b.bs.length y1.cb)).setCell ⟨w.heap.size+1+1,6,none⟩ (.slice y1.al y1.b.ls.length y1.cl)).setCell ⟨w.heap.size+1+1,7,none⟩ (.slice y1.ats y1.b.ts.length y1.ct)).setCell ⟨w.heap.size+1+1,8,none⟩ (.int .i64 y1.b.lot)).setCell ⟨w.heap.size+1+1,9,none⟩ (.int .i64 sg)).setCell ⟨w.heap.size+1+1,10,none⟩ (.int .i64 ct)=U:=⟨_,rfl⟩
  have EN:=zh (show Below w.heap.size w U∧Bx11 U w.heap.size (w.heap.size+1+1) (.bool false) (.int .i64 x1.room) (.slice x1.a x1.ps.length x1.c) (.slice y1.aa y1.b.ac.length y1.ca) (.slice y1.ai y1.b.ic.length y1.ci) (.slice y1.ab y1.b.bs.length y1.cb) (.slice y1.al y1.b.ls.length y1.cl) (.slice y1.ats y1.b.ts.length y1.ct) (.int .i64 y1.b.lot) (.int .i64 sg) (.int .i64 ct)∧OwD U w.heap.size x1∧OwV U w.heap.size y1∧u9.grownBy U (some (w.heap.size+1+1)) from by subst hU;exact ended17 (w:=w) (x:=x1) (y:=y1) false sg ct (zu G9).b (zu K9) (zu OX) (zu OY) (by omega))
  replace hU:=zh hU
  obtain⟨f0,f1,f2,f3,f4,f5,f6,f7,f8,f9,f10⟩:=(zu K9).fs
  obtain⟨b0,b1,b2,b3,b4,b5,b6,b7,b8,b9,b10⟩:=(zu K9).cs
  go_wp2
  clear f0 b0 f1 b1 f2 b2 f3 b3 f4 b4 f5 b5 f6 b6 f7 b7 f8 b8 f9 b9 f10 b10
  rw[zu hU]
  clear hU
  have r0:=(zu EN).2.1
  obtain⟨q0,q1,q2,q3,q4,q5,q6,q7,q8,q9,q10⟩:=r0.cs
  refine bodyPost_ret (v:= .tuple #[.agg #[.bool false,.int .i64 x1.room,.slice x1.a x1.ps.length x1.c,.slice y1.aa y1.b.ac.length y1.ca,.slice y1.ai y1.b.ic.length y1.ci,.slice y1.ab y1.b.bs.length y1.cb,.slice y1.al y1.b.ls.length y1.cl,.slice y1.ats y1.b.ts.length y1.ct,.int .i64 y1.b.lot,.int .i64 sg,.int .i64 ct],.int .i64 2]) (by simp[results,Tryz.results16,go_sem,q0,q1,q2,q3,q4,q5,q6,q7,q8,q9,q10]) rfl ?_
  rw[zu E]
  exact⟨x1,y1,zu HX,zu HYY,rfl,(zu EN).2.2.1,(zu EN).2.2.2.1,(zu EN).1⟩
 |true=>
 have E:=zh (show rr=((false,cc,⟨[],[],[],[],[],0⟩,0,0),0) by rw[zu RE,if_pos (show true=true from rfl)])
 clear RE
 have d0:=(zu KD).c0
 have d1:=(zu KD).c1
 obtain⟨c0,c1,c2,c3,c4,c5,c6,c7,c8,c9,c10⟩:=(zu GW).k.cs
 have lt:=(zu GW).k.lt.2
 go_enter Tryz.func16,Tryz.ntmps16
 go_wp2_with fail
 generalize ((w.alloc (.cells #[.bool true,.int .i64 x.room,.slice x.a x.ps.length x.c,.slice (some ⟨z.ga,0,none⟩) z.b.ac.length z.ca,.slice (some ⟨z.gi,0,none⟩) z.b.ic.length z.ci,.slice (some ⟨z.gb,0,none⟩) z.b.bs.length z.cb,.slice (some ⟨z.gl,0,none⟩) z.b.ls.length z.cl,.slice (some ⟨z.gt,0,none⟩) z.b.ts.length z.ct,.int .i64 z.b.lot,.int .i64 sg,.int .i64 ct] 46)).alloc (.cells #[.int .i64 xd.room,.slice xd.a xd.ps.length xd.c] 37)).alloc (.cells #[.bool false,.int .i64 0,.slice none 0 0,.slice none 0 0,.slice none 0 0,.slice none 0 0,.slice none 0 0,.slice none 0 0,.int .i64 0,.int .i64 0,.int .i64 0] 46)=W at *
 clear c0 c1 c2 c3 c4 c5 c6 c7 c8 c9 c10 lt
 refine(zu CR _ (zu RD)).mono ?_
 rintro e u9 ⟨yc,hyc,rfl,oy,b9⟩
 have G9:=zh ((zu GW).step b9)
 have K9:=zh ((zu KW).below b9 (zu KW).lt.2)
 have OX:=zh oy
 have HX:=zh hyc
 have lk:=(zu KW).lt.2
 clear d0 d1 oy hyc b9 CR RD KD
 obtain⟨U,hU⟩:∃U,(((((((((((u9).setCell ⟨w.heap.size+1+1,0,none⟩ (.bool false)).setCell ⟨w.heap.size+1+1,1,none⟩ (.int .i64 yc.room)).setCell ⟨w.heap.size+1+1,2,none⟩ (.slice yc.a yc.ps.length yc.c)).setCell ⟨w.heap.size+1+1,3,none⟩ (.slice none 0 0)).setCell ⟨w.heap.size+1+1,4,none⟩ (.slice none 0 0)).setCell ⟨w.heap.size+1+1,5,none⟩ (.slice none 0 0)).setCell ⟨w.heap.size+1+1,6,none⟩ (.slice none 0 0)).setCell ⟨w.heap.size+1+1,7,none⟩ (.slice none 0 0)).setCell ⟨w.heap.size+1+1,8,none⟩ (.int .i64 0)).setCell ⟨w.heap.size+1+1,9,none⟩ (.int .i64 0)).setCell ⟨w.heap.size+1+1,10,none⟩ (.int .i64 0)=U:=⟨_,rfl⟩
 have EN:=zh (show Below w.heap.size w U∧Bx11 U w.heap.size (w.heap.size+1+1) (.bool false) (.int .i64 yc.room) (.slice yc.a yc.ps.length yc.c) (.slice none 0 0) (.slice none 0 0) (.slice none 0 0) (.slice none 0 0) (.slice none 0 0) (.int .i64 0) (.int .i64 0) (.int .i64 0)∧OwD U w.heap.size yc∧OwV U w.heap.size noI∧u9.grownBy U (some (w.heap.size+1+1)) from by subst hU;exact ended17 (w:=w) (x:=yc) (y:=noI) false 0 0 (zu G9).b (zu K9) (zu OX) (ownV_no _ _) (by omega))
 replace hU:=zh hU
 obtain⟨f0,f1,f2,f3,f4,f5,f6,f7,f8,f9,f10⟩:=(zu K9).fs
 obtain⟨b0,b1,b2,b3,b4,b5,b6,b7,b8,b9,b10⟩:=(zu K9).cs
 go_wp2
 clear f0 b0 f1 b1 f2 b2 f3 b3 f4 b4 f5 b5 f6 b6 f7 b7 f8 b8 f9 b9 f10 b10
 rw[zu hU]
 clear hU
 have r0:=(zu EN).2.1
 obtain⟨q0,q1,q2,q3,q4,q5,q6,q7,q8,q9,q10⟩:=r0.cs
 refine bodyPost_ret (v:= .tuple #[.agg #[.bool false,.int .i64 yc.room,.slice yc.a yc.ps.length yc.c,.slice none 0 0,.slice none 0 0,.slice none 0 0,.slice none 0 0,.slice none 0 0,.int .i64 0,.int .i64 0,.int .i64 0],.int .i64 0]) (by simp[results,Tryz.results16,go_sem,q0,q1,q2,q3,q4,q5,q6,q7,q8,q9,q10]) rfl ?_
 rw[zu E]
 exact⟨yc,noI,zu HX,rfl,rfl,(zu EN).2.2.1,(zu EN).2.2.2.1,(zu EN).1⟩
end SEngCr17
namespace PTorn17
open Fil14 SOk14 DkH14 SDk14 DiskH14 CrE17 EFin17 SStep16 SWrite16
open Bks (Bk)
def runs(up:Bool)(steps:Int):Nat:=if up=true∧0≤steps∧steps≤4 then steps.toNat else 0
theorem runs_le(up:Bool)(steps:Int):runs up steps≤4:=by
 unfold runs;split
 ·omega
 ·omega
theorem runs_iff{up:Bool}{steps:Int}{k:Nat}(hk:k≤runs up steps):k<runs up steps↔((k:Int)<steps∧up=true∧steps≤4):=by
 unfold runs at *
 split
 ·rename_i h
  rw[if_pos h] at hk
  constructor
  ·intro t;exact⟨by omega,h.1,h.2.2⟩
  ·intro t;omega
 ·rename_i h
  rw[if_neg h] at hk
  constructor
  ·intro t;omega
  ·intro t;exact absurd ⟨t.2.1,by omega,t.2.2⟩ h
theorem torn_n{up:Bool}{room:Int}{ps:List TF}{b:Bk}{sg ct steps keep:Int}{tx:ByteArray×Bool}:downE up room ps b sg ct (tornD room ps tx steps) keep=downE up room ps b sg ct (tornF tx (runs up steps) 0 (room,ps)) keep:=by
 cases up
 ·rfl
 ·by_cases h:0≤steps∧steps≤4
  ·rw[show runs true steps=steps.toNat from if_pos ⟨rfl,h⟩,show tornD room ps tx steps=tornF tx steps.toNat 0 (room,ps) from if_pos h]
  ·rw[show runs true steps=0 from if_neg (fun q=>h q.2),show tornD room ps tx steps=(room,ps) from if_neg h]
   rfl
theorem step_small{room:Int}{ps:List TF}{tx:ByteArray×Bool}{k:Int}(h:(stepD room ps tx k).2=0):sumZ (stepD room ps tx k).1.2≤1048576:=by
 have o:=step_ok h
 have h1:=o.1.2
 have h2:=o.2.2.1
 omega
theorem step_len{room:Int}{ps:List TF}{tx:ByteArray×Bool}{k:Int}(h:(stepD room ps tx k).2=0):(stepD room ps tx k).1.2.length≤1048576:=by
 have o:=step_ok h
 have h1:=o.2.1
 omega
end PTorn17
namespace Mc17
open Fil14 DkH14 SDk14 EBx17 EFin17
open BMem (Bx Rd Ow)
open BHelp (Ix)
open Bx16 (grow_grow grow_low)
open VB13
def Bx13(w:World)(base g:Nat)(v0 v1 v2 v3 v4 v5 v6 v7 v8 v9 v10 v11 v12:Value):Prop:=w.ownsRow base 109 13 (.slice (some ⟨g,0,none⟩) 1 1) 1 [v0,v1,v2,v3,v4,v5,v6,v7,v8,v9,v10,v11,v12]
theorem Bx13.made{w:World}{base g:Nat}(v0 v1 v2 v3 v4 v5 v6 v7 v8 v9 v10 v11 v12:Value)(hb:base≤w.heap.size)(hg:g=w.heap.size):Bx13 (w.alloc (.cells #[v0,v1,v2,v3,v4,v5,v6,v7,v8,v9,v10,v11,v12] 109)) base g v0 v1 v2 v3 v4 v5 v6 v7 v8 v9 v10 v11 v12:=by
 subst hg
 exact⟨rfl,.inr ⟨w.heap.size,1,#[v0,v1,v2,v3,v4,v5,v6,v7,v8,v9,v10,v11,v12],rfl,hb,heap_alloc_new w _,Nat.le_refl _,by unfold maxLen;omega,rfl,rfl⟩⟩
section
variable {w w':World} {base g:Nat} {v0 v1 v2 v3 v4 v5 v6 v7 v8 v9 v10 v11 v12:Value}
theorem Bx13.lt(h:Bx13 w base g v0 v1 v2 v3 v4 v5 v6 v7 v8 v9 v10 v11 v12):base≤g∧g<w.heap.size:=World.ownsRow.lt h g rfl
theorem Bx13.free(h:Bx13 w base g v0 v1 v2 v3 v4 v5 v6 v7 v8 v9 v10 v11 v12)(i:Nat):w.frozen? ⟨g,i,none⟩=false:=World.ownsRow.frozenAt h i
theorem Bx13.c0(h:Bx13 w base g v0 v1 v2 v3 v4 v5 v6 v7 v8 v9 v10 v11 v12):w.cell? ⟨g,0,none⟩=some v0:=(World.ownsRow.cellAt h 0 (by omega)).trans rfl
theorem Bx13.c2(h:Bx13 w base g v0 v1 v2 v3 v4 v5 v6 v7 v8 v9 v10 v11 v12):w.cell? ⟨g,2,none⟩=some v2:=(World.ownsRow.cellAt h 2 (by omega)).trans rfl
theorem Bx13.c3(h:Bx13 w base g v0 v1 v2 v3 v4 v5 v6 v7 v8 v9 v10 v11 v12):w.cell? ⟨g,3,none⟩=some v3:=(World.ownsRow.cellAt h 3 (by omega)).trans rfl
theorem Bx13.c4(h:Bx13 w base g v0 v1 v2 v3 v4 v5 v6 v7 v8 v9 v10 v11 v12):w.cell? ⟨g,4,none⟩=some v4:=(World.ownsRow.cellAt h 4 (by omega)).trans rfl
theorem Bx13.c5(h:Bx13 w base g v0 v1 v2 v3 v4 v5 v6 v7 v8 v9 v10 v11 v12):w.cell? ⟨g,5,none⟩=some v5:=(World.ownsRow.cellAt h 5 (by omega)).trans rfl
theorem Bx13.c6(h:Bx13 w base g v0 v1 v2 v3 v4 v5 v6 v7 v8 v9 v10 v11 v12):w.cell? ⟨g,6,none⟩=some v6:=(World.ownsRow.cellAt h 6 (by omega)).trans rfl
theorem Bx13.c7(h:Bx13 w base g v0 v1 v2 v3 v4 v5 v6 v7 v8 v9 v10 v11 v12):w.cell? ⟨g,7,none⟩=some v7:=(World.ownsRow.cellAt h 7 (by omega)).trans rfl
theorem Bx13.c8(h:Bx13 w base g v0 v1 v2 v3 v4 v5 v6 v7 v8 v9 v10 v11 v12):w.cell? ⟨g,8,none⟩=some v8:=(World.ownsRow.cellAt h 8 (by omega)).trans rfl
theorem Bx13.c9(h:Bx13 w base g v0 v1 v2 v3 v4 v5 v6 v7 v8 v9 v10 v11 v12):w.cell? ⟨g,9,none⟩=some v9:=(World.ownsRow.cellAt h 9 (by omega)).trans rfl
theorem Bx13.c10(h:Bx13 w base g v0 v1 v2 v3 v4 v5 v6 v7 v8 v9 v10 v11 v12):w.cell? ⟨g,10,none⟩=some v10:=(World.ownsRow.cellAt h 10 (by omega)).trans rfl
theorem Bx13.c11(h:Bx13 w base g v0 v1 v2 v3 v4 v5 v6 v7 v8 v9 v10 v11 v12):w.cell? ⟨g,11,none⟩=some v11:=(World.ownsRow.cellAt h 11 (by omega)).trans rfl
theorem Bx13.c12(h:Bx13 w base g v0 v1 v2 v3 v4 v5 v6 v7 v8 v9 v10 v11 v12):w.cell? ⟨g,12,none⟩=some v12:=(World.ownsRow.cellAt h 12 (by omega)).trans rfl
theorem Bx13.set0(h:Bx13 w base g v0 v1 v2 v3 v4 v5 v6 v7 v8 v9 v10 v11 v12)(u:Value):Bx13 (w.setCell ⟨g,0,none⟩ u) base g u v1 v2 v3 v4 v5 v6 v7 v8 v9 v10 v11 v12∧w.grownBy (w.setCell ⟨g,0,none⟩ u) (some g):=World.ownsRow.stored h 0 u
theorem Bx13.set2(h:Bx13 w base g v0 v1 v2 v3 v4 v5 v6 v7 v8 v9 v10 v11 v12)(u:Value):Bx13 (w.setCell ⟨g,2,none⟩ u) base g v0 v1 u v3 v4 v5 v6 v7 v8 v9 v10 v11 v12∧w.grownBy (w.setCell ⟨g,2,none⟩ u) (some g):=World.ownsRow.stored h 2 u
theorem Bx13.set3(h:Bx13 w base g v0 v1 v2 v3 v4 v5 v6 v7 v8 v9 v10 v11 v12)(u:Value):Bx13 (w.setCell ⟨g,3,none⟩ u) base g v0 v1 v2 u v4 v5 v6 v7 v8 v9 v10 v11 v12∧w.grownBy (w.setCell ⟨g,3,none⟩ u) (some g):=World.ownsRow.stored h 3 u
theorem Bx13.set4(h:Bx13 w base g v0 v1 v2 v3 v4 v5 v6 v7 v8 v9 v10 v11 v12)(u:Value):Bx13 (w.setCell ⟨g,4,none⟩ u) base g v0 v1 v2 v3 u v5 v6 v7 v8 v9 v10 v11 v12∧w.grownBy (w.setCell ⟨g,4,none⟩ u) (some g):=World.ownsRow.stored h 4 u
theorem Bx13.set5(h:Bx13 w base g v0 v1 v2 v3 v4 v5 v6 v7 v8 v9 v10 v11 v12)(u:Value):Bx13 (w.setCell ⟨g,5,none⟩ u) base g v0 v1 v2 v3 v4 u v6 v7 v8 v9 v10 v11 v12∧w.grownBy (w.setCell ⟨g,5,none⟩ u) (some g):=World.ownsRow.stored h 5 u
theorem Bx13.set6(h:Bx13 w base g v0 v1 v2 v3 v4 v5 v6 v7 v8 v9 v10 v11 v12)(u:Value):Bx13 (w.setCell ⟨g,6,none⟩ u) base g v0 v1 v2 v3 v4 v5 u v7 v8 v9 v10 v11 v12∧w.grownBy (w.setCell ⟨g,6,none⟩ u) (some g):=World.ownsRow.stored h 6 u
theorem Bx13.set7(h:Bx13 w base g v0 v1 v2 v3 v4 v5 v6 v7 v8 v9 v10 v11 v12)(u:Value):Bx13 (w.setCell ⟨g,7,none⟩ u) base g v0 v1 v2 v3 v4 v5 v6 u v8 v9 v10 v11 v12∧w.grownBy (w.setCell ⟨g,7,none⟩ u) (some g):=World.ownsRow.stored h 7 u
theorem Bx13.set8(h:Bx13 w base g v0 v1 v2 v3 v4 v5 v6 v7 v8 v9 v10 v11 v12)(u:Value):Bx13 (w.setCell ⟨g,8,none⟩ u) base g v0 v1 v2 v3 v4 v5 v6 v7 u v9 v10 v11 v12∧w.grownBy (w.setCell ⟨g,8,none⟩ u) (some g):=World.ownsRow.stored h 8 u
theorem Bx13.set9(h:Bx13 w base g v0 v1 v2 v3 v4 v5 v6 v7 v8 v9 v10 v11 v12)(u:Value):Bx13 (w.setCell ⟨g,9,none⟩ u) base g v0 v1 v2 v3 v4 v5 v6 v7 v8 u v10 v11 v12∧w.grownBy (w.setCell ⟨g,9,none⟩ u) (some g):=World.ownsRow.stored h 9 u
theorem Bx13.set10(h:Bx13 w base g v0 v1 v2 v3 v4 v5 v6 v7 v8 v9 v10 v11 v12)(u:Value):Bx13 (w.setCell ⟨g,10,none⟩ u) base g v0 v1 v2 v3 v4 v5 v6 v7 v8 v9 u v11 v12∧w.grownBy (w.setCell ⟨g,10,none⟩ u) (some g):=World.ownsRow.stored h 10 u
theorem Bx13.set11(h:Bx13 w base g v0 v1 v2 v3 v4 v5 v6 v7 v8 v9 v10 v11 v12)(u:Value):Bx13 (w.setCell ⟨g,11,none⟩ u) base g v0 v1 v2 v3 v4 v5 v6 v7 v8 v9 v10 u v12∧w.grownBy (w.setCell ⟨g,11,none⟩ u) (some g):=World.ownsRow.stored h 11 u
theorem Bx13.set12(h:Bx13 w base g v0 v1 v2 v3 v4 v5 v6 v7 v8 v9 v10 v11 v12)(u:Value):Bx13 (w.setCell ⟨g,12,none⟩ u) base g v0 v1 v2 v3 v4 v5 v6 v7 v8 v9 v10 v11 u∧w.grownBy (w.setCell ⟨g,12,none⟩ u) (some g):=World.ownsRow.stored h 12 u
theorem Bx13.below{B:Nat}(h:Bx13 w base g v0 v1 v2 v3 v4 v5 v6 v7 v8 v9 v10 v11 v12)(k:Below B w w')(hg:g<B):Bx13 w' base g v0 v1 v2 v3 v4 v5 v6 v7 v8 v9 v10 v11 v12:=by
 refine⟨h.1,?_⟩
 rcases h.2 with⟨h1,_⟩|⟨g',c,cur,h1,h2,h3,h4⟩
 ·simp at h1
 ·have e:g=g':=by simp at h1;exact h1.1
  subst e
  exact .inr ⟨g,c,cur,h1,h2,(k.block g hg).trans h3,h4⟩
theorem Bx13.kept{row:Option Nat}(h:Bx13 w base g v0 v1 v2 v3 v4 v5 v6 v7 v8 v9 v10 v11 v12)(k:w.grownBy w' row)(hne:some g≠row):Bx13 w' base g v0 v1 v2 v3 v4 v5 v6 v7 v8 v9 v10 v11 v12:=World.ownsRow.kept h k (Or.inr hne)
end
theorem grow_refl(w:World)(row:Option Nat):w.grownBy w row:=⟨rfl,rfl,rfl,Nat.le_refl _,fun _ _ _=>rfl⟩
theorem grow_below{w X X':World}{row:Option Nat}(h:w.grownBy X row)(k:Below X.heap.size X X'):w.grownBy X' row:=
 ⟨k.os.trans h.os,k.tape.trans h.tape,k.output.trans h.output,Nat.le_trans h.size k.size,fun i hi hr=>(k.block i (Nat.lt_of_lt_of_le hi h.size)).trans (h.block i hi hr)⟩
theorem grow_new{w X X':World}{row:Option Nat}{R:Nat}(h:w.grownBy X row)(k:X.grownBy X' (some R))(n:w.heap.size≤R):w.grownBy X' row:=
 ⟨k.os.trans h.os,k.tape.trans h.tape,k.output.trans h.output,Nat.le_trans h.size k.size,fun i hi hr=>(k.block i (Nat.lt_of_lt_of_le hi h.size) (by simp;omega)).trans (h.block i hi hr)⟩
theorem below_grow{X X':World}{row:Option Nat}(k:Below X.heap.size X X'):X.grownBy X' row:=grow_below (grow_refl X row) k
def BkI(W:World)(y:Ix):Prop:=(∃z:Bx,y=ixB z∧Rd W z)∨y=noI
theorem BkI.below{W W':World}{y:Ix}(h:BkI W y)(k:Below W.heap.size W W'):BkI W' y:=by
 rcases h with⟨z,e,r⟩|e
 ·exact .inl ⟨z,e,r.below k⟩
 ·exact .inr e
structure Mc(W:World)(base g:Nat)(l:Int)(up:Bool)(x:Dx)(y:Ix)(sg ct:Int):Prop where
 k:Bx13 W base g (.int .i32 l) (.int .u32 0) (.int .i64 x.room) (.slice x.a x.ps.length x.c) (.bool up) (.slice y.aa y.b.ac.length y.ca) (.slice y.ai y.b.ic.length y.ci) (.slice y.ab y.b.bs.length y.cb) (.slice y.al y.b.ls.length y.cl) (.slice y.ats y.b.ts.length y.ct) (.int .i64 y.b.lot) (.int .i64 sg) (.int .i64 ct)
 st:∀W',W.grownBy W' (some g)→RdD W' x∧BkI W' y
section
variable {w W W':World} {base g:Nat} {l sg ct:Int} {up:Bool} {x:Dx} {y:Ix}
theorem Mc.rx(h:Mc W base g l up x y sg ct):RdD W x:=(h.st W (grow_refl W _)).1
theorem Mc.ry(h:Mc W base g l up x y sg ct):BkI W y:=(h.st W (grow_refl W _)).2
theorem Mc.rz{z:Bx}(h:Mc W base g l up x (ixB z) sg ct):Rd W z:=by
 rcases(h.st W (grow_refl W _)).2 with⟨z',e,r⟩|e
 ·have:z=z':=by
   cases z;cases z'
   simp only[ixB,Ix.mk.injEq,Option.some.injEq,Addr.mk.injEq,and_true] at e
   simp[e]
  rw[this];exact r
 ·simp[ixB,noI] at e
theorem Mc.turn(h:Mc W base g l up x y sg ct)(k:W.grownBy W' (some g)){l2 sg2 ct2:Int}{up2:Bool}(b:Bx13 W' base g (.int .i32 l2) (.int .u32 0) (.int .i64 x.room) (.slice x.a x.ps.length x.c) (.bool up2) (.slice y.aa y.b.ac.length y.ca) (.slice y.ai y.b.ic.length y.ci) (.slice y.ab y.b.bs.length y.cb) (.slice y.al y.b.ls.length y.cl) (.slice y.ats y.b.ts.length y.ct) (.int .i64 y.b.lot) (.int .i64 sg2) (.int .i64 ct2)):Mc W' base g l2 up2 x y sg2 ct2:=
 ⟨b,fun V q=>h.st V (grow_grow k q)⟩
theorem Mc.step(h:Mc W base g l up x y sg ct)(k:Below W.heap.size W W'):Mc W' base g l up x y sg ct:=
 ⟨h.k.below k h.k.lt.2,fun V q=>h.st V (grow_grow (below_grow k) q)⟩
end
def DeedTo(r:PE×Int)(u:World)(base g:Nat)(e:Ending)(u':World):Prop:=
 ∃(x:Dx) (y:Ix),(x.room,x.ps)=r.1.2.1∧y.b=r.1.2.2.1∧e= .returned (.int .i64 r.2)∧Mc u' base g 1 r.1.1 x y r.1.2.2.2.1 r.1.2.2.2.2∧u.grownBy u' (some g)
def DoTo(r:PE×Int)(w:World)(g:Nat)(e:Ending)(w':World):Prop:=
 ∃(x:Dx) (y:Ix),(x.room,x.ps)=r.1.2.1∧y.b=r.1.2.2.1∧e= .returned (.tuple #[.agg #[.bool r.1.1,.int .i64 x.room,.slice x.a x.ps.length x.c,.slice y.aa y.b.ac.length y.ca,.slice y.ai y.b.ic.length y.ci,.slice y.ab y.b.bs.length y.cb,.slice y.al y.b.ls.length y.cl,.slice y.ats y.b.ts.length y.ct,.int .i64 y.b.lot,.int .i64 r.1.2.2.2.1,.int .i64 r.1.2.2.2.2],.int .i64 r.2])∧OwD w' w.heap.size x∧OwV w' w.heap.size y∧w.grownBy w' (some g)
end Mc17
namespace IEngOk17
open Fil14 OpensF14 DiskH14 DkH14 SDk14 SOk14 SRd14 EBx17 SSameZ17 SEngOk17
open BMem (Bx Rd)
open Bks (Bk Ok)
open Lots (Says says_of)
open SegP15 (okS)
theorem iLate(w:World)(nm:Int)(s0 s:ByteArray)(eb:Bool)(heb:s.toList.isEmpty=eb):Calls Tryz.prog 156 #[.agg #[.int .i64 nm,.string s0,.string s]] w fun e w'=>e= .returned (.bool (!eb))∧Below w.heap.size w w':=by
 have BB:Below w.heap.size w (w.alloc (.cells #[.int .i64 nm,.string s0,.string s] 81)):=(Below.refl _ _).alloc (Nat.le_refl _) _
 have B1:=zh BB
 clear BB
 go_enter Tryz.func156,Tryz.ntmps156
 cases eb
 ·go_wp2
  go_ret
  exact⟨by simp[heb],zu B1⟩
 ·go_wp2
  go_ret
  exact⟨by simp[heb],zu B1⟩
theorem iIndexL(w:World)(x:Dx)(hr:RdD w x):
  Calls Tryz.prog 177 #[.slice x.a x.ps.length x.c,.func (.func 156) #[] #[]] w fun e w'=>∃r:Int,((r= -1∧NoLate x.ps x.ps.length)∨(0≤r∧¬NoLate x.ps x.ps.length))∧e= .returned (.int .i64 r)∧Below w.heap.size w w':=by
 have H:=zh hr
 have hK:∀(args:Array Value) (u:World),(callFunc 156 args).run Tryz.prog u= .ok (.enter 156 args) u:=fun _ _=>IRead.enters Tryz.func156 (by kernel_rfl) rfl _ _
 have h20:=hr.n
 clear hr
 go_enter Tryz.func177,Tryz.ntmps177
 go_wp2_with fail
 go_loopw [8] (fun i wr=>∃(k:Nat),k≤x.ps.length∧i= .int .i64 k∧Hid (NoLate x.ps k)∧Hid (Below w.heap.size w wr)) (fun i _=>x.ps.length-(intOf i).toNat)
 case atStart=>exact⟨0,by omega,rfl,zh (fun j hj=>by omega),zh (Below.refl _ _)⟩
 case round=>
  obtain⟨k,hk,rfl,HN,HB⟩:=hrel
  by_cases t:k<x.ps.length
  ·have kt:(k:Int)<x.ps.length:=by omega
   obtain⟨g,ea,lg,d0,d1,d2⟩:=cells_of ((zu H).below (zu HB)) t
   have LN:=zh (fun e=>late_next (zu HN) (k:=k) e)
   have NV:=zh (fun(h:NoLate x.ps x.ps.length)=>h k t)
   generalize (elF x.ps k).2.2=s at *
   generalize (elF x.ps k).2.1=s1 at *
   generalize (elF x.ps k).1=s0 at *
   rw[ea]
   obtain⟨eb,heb⟩:∃eb,s.toList.isEmpty=eb:=⟨_,rfl⟩
   go_wp2_with fail
   refine(iLate _ s0 s1 s eb heb).mono ?_
   rintro e w1 ⟨rfl,b1⟩
   have B1:=zh ((zu HB).trans (b1.mono (zu HB).size))
   clear b1 d0 d1 d2 HN HB
   rw[heb] at LN NV
   clear heb
   cases eb with
   |true=>
    have N:=zh ((zu LN) rfl)
    clear LN NV
    go_wp2
    go_roundw
    case rel=>exact⟨k+1,by omega,by go_num,N,B1⟩
    case measure=>simp[intOf];omega
   |false=>
    have N:=zh (show ¬NoLate x.ps x.ps.length from fun h=>by have:=(zu NV) h;simp at this)
    clear LN NV
    go_wp2
    go_ret
    exact⟨k,.inr ⟨by omega,zu N⟩,rfl,zu B1⟩
  ·have e:k=x.ps.length:=by omega
   have HN2:=zh (show NoLate x.ps x.ps.length from by rw[←e];exact zu HN)
   clear HN
   subst e
   go_wp2
   go_ret
   exact⟨-1,.inl ⟨rfl,zu HN2⟩,rfl,zu HB⟩
theorem iContainsL(w:World)(x:Dx)(b:Bool)(hr:RdD w x)(hb:Says b (NoLate x.ps x.ps.length)):
  Calls Tryz.prog 155 #[.slice x.a x.ps.length x.c,.func (.func 156) #[] #[]] w fun e w'=>e= .returned (.bool (!b))∧Below w.heap.size w w':=by
 have T:=zh hb
 have H:=zh hr
 clear hb hr
 go_enter Tryz.func155,Tryz.ntmps155
 go_wp2_with fail
 refine(iIndexL _ x (zu H)).mono ?_
 rintro e w1 ⟨r,hr,rfl,b1⟩
 have B1:=zh b1
 have hd:decide (0≤r)= !b:=by
  rcases hr with⟨rfl,hr⟩|⟨h0,hr⟩
  ·rw[(zu T).of hr];rfl
  ·rw[(zu T).not hr];exact decide_eq_true h0
 clear b1 hr
 go_wp2
 go_ret
 exact⟨rfl,zu B1⟩
theorem iAllSafe(w:World)(x:Dx)(b:Bool)(hr:RdD w x)(hb:Says b (NoLate x.ps x.ps.length)):
  Calls Tryz.prog 137 #[.agg #[.int .i64 x.room,.slice x.a x.ps.length x.c]] w fun e w'=>e= .returned (.bool b)∧Below w.heap.size w w':=by
 have T:=zh hb
 have G0:=zh (Wd.made hr 37)
 clear hb hr
 have c1:=(zu G0).c1
 go_enter Tryz.func137,Tryz.ntmps137
 go_wp2_with fail
 generalize w.alloc (.cells #[.int .i64 x.room,.slice x.a x.ps.length x.c] 37)=W at *
 refine(iContainsL _ x b (zu G0).r (zu T)).mono ?_
 rintro e w1 ⟨rfl,b1⟩
 have B1:=zh ((zu G0).b.trans (b1.mono (zu G0).b.size))
 clear b1 c1 G0
 cases b
 ·go_wp2
  go_ret
  exact⟨rfl,zu B1⟩
 ·go_wp2
  go_ret
  exact⟨rfl,zu B1⟩
theorem iNew(w:World):Calls Tryz.prog 64 #[] w fun e w'=>e= .returned (.agg #[.slice none 0 0,.slice none 0 0,.slice none 0 0,.slice none 0 0,.slice none 0 0,.int .i64 0])∧Below w.heap.size w w':=by
 go_enter Tryz.func64,Tryz.ntmps64
 go_wp2
 refine bodyPost_ret (v:= .agg #[.slice none 0 0,.slice none 0 0,.slice none 0 0,.slice none 0 0,.slice none 0 0,.int .i64 0]) (by simp[results,Tryz.results64,go_sem]) rfl ⟨rfl,?_⟩
 repeat(first|exact Below.refl _ _|refine Below.setCell ?_ (by simp) _|refine Below.alloc ?_ (by simp) _)
theorem iEngineOk(w:World)(up:Bool)(x:Dx)(z:Bx)(sg ct:Int)(vb v:Bool)(hr:RdD w x)(hz:sumZ x.ps≤1048576)(hy:Rd w z)(hb:Says vb (Ok z.b))(hv:Says v (OkE up x.room x.ps z.b sg ct)):
  Calls Tryz.prog 110 #[.agg #[.bool up,.int .i64 x.room,.slice x.a x.ps.length x.c,.slice (some ⟨z.ga,0,none⟩) z.b.ac.length z.ca,.slice (some ⟨z.gi,0,none⟩) z.b.ic.length z.ci,.slice (some ⟨z.gb,0,none⟩) z.b.bs.length z.cb,.slice (some ⟨z.gl,0,none⟩) z.b.ls.length z.cl,.slice (some ⟨z.gt,0,none⟩) z.b.ts.length z.ct,.int .i64 z.b.lot,.int .i64 sg,.int .i64 ct]] w fun e w'=>e= .returned (.bool v)∧Below w.heap.size w w':=by
 have G0:=zh (Eg.made hr hy (Below.refl _ _) up sg ct)
 have OK0:=zh (fun u b (h:RdD u x) (q:decide (OkD x.room x.ps)=b)=>ICom14.iOkB u x b h hz q)
 have BO:=zh (fun u (h:Rd u z)=>IBooksOk.iBooksOk u z vb h hb)
 have HB:=zh hb
 have HV:=zh (show v=true↔OkE up x.room x.ps z.b sg ct from hv)
 have h20:=hr.n
 clear hr hy hb hv
 have c1:=(zu G0).k.c1
 have c2:=(zu G0).k.c2
 have lt:=(zu G0).k.lt.2
 go_enter Tryz.func110,Tryz.ntmps110
 go_wp2_with fail
 generalize w.alloc (.cells #[.bool up,.int .i64 x.room,.slice x.a x.ps.length x.c,.slice (some ⟨z.ga,0,none⟩) z.b.ac.length z.ca,.slice (some ⟨z.gi,0,none⟩) z.b.ic.length z.ci,.slice (some ⟨z.gb,0,none⟩) z.b.bs.length z.cb,.slice (some ⟨z.gl,0,none⟩) z.b.ls.length z.cl,.slice (some ⟨z.gt,0,none⟩) z.b.ts.length z.ct,.int .i64 z.b.lot,.int .i64 sg,.int .i64 ct] 46)=W at *
 refine(zu OK0 _ _ (zu G0).r rfl).mono ?_
 rintro e u ⟨rfl,b1⟩
 have G1:=zh ((zu G0).step b1)
 clear b1 G0 OK0
 clear c1 c2 lt
 by_cases ok:OkD x.room x.ps
 case neg=>
  have od:decide (OkD x.room x.ps)=false:=decide_eq_false ok
  have V:=zh (show v=false from by
   cases e:v with
   |false=>rfl
   |true=>exact absurd ((zu HV).1 e).1 ok)
  clear ok HV
  go_wp2
  go_ret
  exact⟨by rw[zu V];rfl,(zu G1).b⟩
 have od:decide (OkD x.room x.ps)=true:=decide_eq_true ok
 have OK:=zh ok
 clear ok
 cases up with
 |true=>
  have c0:=(zu G1).k.c0
  have c3:=(zu G1).k.c3
  have c4:=(zu G1).k.c4
  have c5:=(zu G1).k.c5
  have c6:=(zu G1).k.c6
  have c7:=(zu G1).k.c7
  have c8:=(zu G1).k.c8
  have lt:=(zu G1).k.lt.2
  go_wp2_with fail
  refine(zu BO _ (zu G1).rb).mono ?_
  rintro e u2 ⟨rfl,b2⟩
  have G2:=zh ((zu G1).step b2)
  clear b2 G1 c0
  clear c3 c4 c5 c6 c7 c8 lt
  cases vb with
  |false=>
   have V:=zh (show v=false from by
    cases e:v with
    |false=>rfl
    |true=>exact absurd (((zu HV).1 e).2.1 rfl).1 (fun h=>by have:=(zu HB).of h;simp at this))
   clear HV
   go_wp2
   go_ret
   exact⟨by rw[zu V];rfl,(zu G2).b⟩
  |true=>
  have OB:=zh ((zu HB).yes)
  obtain⟨sb,hs⟩:∃sb,okS sg=sb:=⟨_,rfl⟩
  have HS:=zh hs
  clear hs
  have c9:=(zu G2).k.c9
  have lt:=(zu G2).k.lt.2
  go_wp2_with fail
  refine(ISg15.iSeg _ sg).mono ?_
  rintro e u2 ⟨rfl,rfl⟩
  rw[zu HS]
  clear c9 lt
  cases sb with
  |false=>
   have V:=zh (show v=false from by
    cases e:v with
    |false=>rfl
    |true=>
     have:=(((zu HV).1 e).2.1 rfl).2.1
     rw[zu HS] at this
     exact absurd this (by simp))
   clear HV
   go_wp2
   go_ret
   exact⟨by rw[zu V];rfl,(zu G2).b⟩
  |true=>
  obtain⟨ca,ha⟩:∃ca,decide (0≤ct)=ca:=⟨_,rfl⟩
  obtain⟨cb,hb⟩:∃cb,decide (ct≤6)=cb:=⟨_,rfl⟩
  have V:=zh (show v=(ca&&cb) from by
   have A:v=true↔(ca=true∧cb=true):=by
    rw[zu HV,←ha,←hb]
    constructor
    ·rintro⟨_,h,_⟩
     have h3:=(h rfl).2.2
     exact⟨decide_eq_true h3.1,decide_eq_true h3.2⟩
    ·rintro⟨h1,h2⟩
     exact⟨zu OK,fun _=>⟨zu OB,zu HS,of_decide_eq_true h1,of_decide_eq_true h2⟩,fun h=>by simp at h⟩
   revert A;clear HV ha hb;cases v<;>cases ca<;>cases cb<;>simp)
  have c10:=(zu G2).k.c10
  have lt:=(zu G2).k.lt.2
  clear HV
  cases ca with
  |false=>
   go_wp2
   go_ret
   exact⟨by rw[zu V];rfl,(zu G2).b⟩
  |true=>
  go_wp2
  go_ret
  exact⟨by rw[zu V];simp,(zu G2).b⟩
 |false=>
 obtain⟨nl,hnl⟩:=says_of (NoLate x.ps x.ps.length)
 obtain⟨nb,hnb⟩:=says_of (z.b=noB)
 have NL:=zh hnl
 have NB:=zh hnb
 clear hnl hnb
 obtain⟨s0,hs0⟩:∃b,(sg==0)=b:=⟨_,rfl⟩
 obtain⟨s1,hs1⟩:∃b,(ct==0)=b:=⟨_,rfl⟩
 have V:=zh (show v=(nl&&nb&&s0&&s1) from by
  have A:v=true↔(nl=true∧nb=true∧s0=true∧s1=true):=by
   rw[zu HV,←hs0,←hs1]
   constructor
   ·rintro⟨_,_,h⟩
    obtain⟨h0,h1,h2,h3⟩:=h rfl
    exact⟨(zu NL).of h0,(zu NB).of h1,by simp[h2],by simp[h3]⟩
   ·rintro⟨h0,h1,h2,h3⟩
    subst h0 h1
    exact⟨zu OK,fun h=>by simp at h,fun _=>⟨(zu NL).yes,(zu NB).yes,by simpa using h2,by simpa using h3⟩⟩
  revert A;clear HV NB NL;cases v<;>cases nl<;>cases nb<;>cases s0<;>cases s1<;>simp)
 clear HV
 have c0:=(zu G1).k.c0
 have lt:=(zu G1).k.lt.2
 go_wp2_with fail
 clear c0 lt
 cases nl with
 |false=>
  refine wp_region_held_drew (S:=(fun w'=>w'.cell? ⟨w.heap.size,1,none⟩=some (.int .i64 x.room)∧w'.cell? ⟨w.heap.size,2,none⟩=some (.slice x.a x.ps.length x.c)∧w'.cell? ⟨w.heap.size,3,none⟩=some (.slice (some ⟨z.ga,0,none⟩) z.b.ac.length z.ca)∧w'.cell? ⟨w.heap.size,4,none⟩=some (.slice (some ⟨z.gi,0,none⟩) z.b.ic.length z.ci)∧w'.cell? ⟨w.heap.size,5,none⟩=some (.slice (some ⟨z.gb,0,none⟩) z.b.bs.length z.cb)∧w'.cell? ⟨w.heap.size,6,none⟩=some (.slice (some ⟨z.gl,0,none⟩) z.b.ls.length z.cl)∧w'.cell? ⟨w.heap.size,7,none⟩=some (.slice (some ⟨z.gt,0,none⟩) z.b.ts.length z.ct)∧w'.cell? ⟨w.heap.size,8,none⟩=some (.int .i64 z.b.lot)∧w'.cell? ⟨w.heap.size,9,none⟩=some (.int .i64 sg)∧w'.cell? ⟨w.heap.size,10,none⟩=some (.int .i64 ct))) (by kernel_rfl) ⟨(zu G1).k.c1,(zu G1).k.c2,(zu G1).k.c3,(zu G1).k.c4,(zu G1).k.c5,(zu G1).k.c6,(zu G1).k.c7,(zu G1).k.c8,(zu G1).k.c9,(zu G1).k.c10⟩ (fun hHeld=>?_)
  refine zT 0 10 (.pointer (some ⟨w.heap.size,1,none⟩)) rfl hHeld ?_
  try simp only[Act.put,zA,zB,zC]
  refine zT 1 11 (.agg #[.int .i64 x.room,.slice x.a x.ps.length x.c]) rfl hHeld ?_
  try simp only[Act.put,zA,zB,zC]
  refine zR 2 rfl (fun K hK=>?_)
  go_simp
  go_wp2_with fail
  refine(iAllSafe _ x false ((zu G1).r.below (Below.refl _ _).drew) (zu NL)).mono ?_
  rintro e v1 ⟨rfl,b6⟩
  have b7:Below u.heap.size u v1:=⟨b6.os,b6.tape,b6.output,b6.size,b6.block⟩
  replace G1:=zh ((zu G1).step b7)
  clear b6 b7
  go_wp2_with fail
  refine hK.out _ _ ⟨(zu G1).k.c1,(zu G1).k.c2,(zu G1).k.c3,(zu G1).k.c4,(zu G1).k.c5,(zu G1).k.c6,(zu G1).k.c7,(zu G1).k.c8,(zu G1).k.c9,(zu G1).k.c10⟩ (fun hHeld=>?_)
  clear hK K
  try simp only[Act.put,zA,zB,zC]
  refine zT 3 13 (.bool false) rfl hHeld ?_
  try simp only[Act.put,zA,zB,zC]
  refine zS 4 14 rfl hHeld ?_
  try simp only[Act.put,zA,zB,zC]
  refine zS 5 15 rfl hHeld ?_
  try simp only[Act.put,zA,zB,zC]
  refine zS 6 16 rfl hHeld ?_
  try simp only[Act.put,zA,zB,zC]
  refine zS 7 17 rfl hHeld ?_
  try simp only[Act.put,zA,zB,zC]
  refine zT 8 18 (.bool false) rfl hHeld ?_
  try simp only[Act.put,zA,zB,zC]
  refine zT 9 19 (.bool false) rfl hHeld ?_
  try simp only[Act.put,zA,zB,zC]
  refine zS 10 20 rfl hHeld ?_
  try simp only[Act.put,zA,zB,zC]
  refine zS 11 21 rfl hHeld ?_
  try simp only[Act.put,zA,zB,zC]
  refine zS 12 22 rfl hHeld ?_
  try simp only[Act.put,zA,zB,zC]
  refine zT 13 23 (.bool false) rfl hHeld ?_
  try simp only[Act.put,zA,zB,zC]
  refine zT 14 24 (.bool false) rfl hHeld ?_
  try simp only[Act.put,zA,zB,zC]
  refine zS 15 25 rfl hHeld ?_
  try simp only[Act.put,zA,zB,zC]
  refine zS 16 26 rfl hHeld ?_
  try simp only[Act.put,zA,zB,zC]
  refine zS 17 27 rfl hHeld ?_
  try simp only[Act.put,zA,zB,zC]
  refine zT 18 28 (.bool false) rfl hHeld ?_
  try simp only[Act.put,zA,zB,zC]
  refine zT 19 2 (.bool false) rfl hHeld ?_
  try simp only[Act.put,zA,zB,zC]
  refine wpAnyH_done (by kernel_rfl) ?_ _
  go_wp2
  go_ret
  exact⟨by rw[zu V];first|rfl|simp,(zu G1).b⟩
 |true=>
 cases nb with
 |false=>
  refine wp_region_held_drew (S:=(fun w'=>w'.cell? ⟨w.heap.size,1,none⟩=some (.int .i64 x.room)∧w'.cell? ⟨w.heap.size,2,none⟩=some (.slice x.a x.ps.length x.c)∧w'.cell? ⟨w.heap.size,3,none⟩=some (.slice (some ⟨z.ga,0,none⟩) z.b.ac.length z.ca)∧w'.cell? ⟨w.heap.size,4,none⟩=some (.slice (some ⟨z.gi,0,none⟩) z.b.ic.length z.ci)∧w'.cell? ⟨w.heap.size,5,none⟩=some (.slice (some ⟨z.gb,0,none⟩) z.b.bs.length z.cb)∧w'.cell? ⟨w.heap.size,6,none⟩=some (.slice (some ⟨z.gl,0,none⟩) z.b.ls.length z.cl)∧w'.cell? ⟨w.heap.size,7,none⟩=some (.slice (some ⟨z.gt,0,none⟩) z.b.ts.length z.ct)∧w'.cell? ⟨w.heap.size,8,none⟩=some (.int .i64 z.b.lot)∧w'.cell? ⟨w.heap.size,9,none⟩=some (.int .i64 sg)∧w'.cell? ⟨w.heap.size,10,none⟩=some (.int .i64 ct))) (by kernel_rfl) ⟨(zu G1).k.c1,(zu G1).k.c2,(zu G1).k.c3,(zu G1).k.c4,(zu G1).k.c5,(zu G1).k.c6,(zu G1).k.c7,(zu G1).k.c8,(zu G1).k.c9,(zu G1).k.c10⟩ (fun hHeld=>?_)
  refine zT 0 10 (.pointer (some ⟨w.heap.size,1,none⟩)) rfl hHeld ?_
  try simp only[Act.put,zA,zB,zC]
  refine zT 1 11 (.agg #[.int .i64 x.room,.slice x.a x.ps.length x.c]) rfl hHeld ?_
  try simp only[Act.put,zA,zB,zC]
  refine zR 2 rfl (fun K hK=>?_)
  go_simp
  go_wp2_with fail
  refine(iAllSafe _ x true ((zu G1).r.below (Below.refl _ _).drew) (zu NL)).mono ?_
  rintro e v1 ⟨rfl,b6⟩
  have b7:Below u.heap.size u v1:=⟨b6.os,b6.tape,b6.output,b6.size,b6.block⟩
  replace G1:=zh ((zu G1).step b7)
  clear b6 b7
  go_wp2_with fail
  refine hK.out _ _ ⟨(zu G1).k.c1,(zu G1).k.c2,(zu G1).k.c3,(zu G1).k.c4,(zu G1).k.c5,(zu G1).k.c6,(zu G1).k.c7,(zu G1).k.c8,(zu G1).k.c9,(zu G1).k.c10⟩ (fun hHeld=>?_)
  clear hK K
  try simp only[Act.put,zA,zB,zC]
  refine zT 3 13 (.bool true) rfl hHeld ?_
  try simp only[Act.put,zA,zB,zC]
  refine zT 4 14 (.pointer (some ⟨w.heap.size,3,none⟩)) rfl hHeld ?_
  try simp only[Act.put,zA,zB,zC]
  refine zT 5 15 (.agg #[.slice (some ⟨z.ga,0,none⟩) z.b.ac.length z.ca,.slice (some ⟨z.gi,0,none⟩) z.b.ic.length z.ci,.slice (some ⟨z.gb,0,none⟩) z.b.bs.length z.cb,.slice (some ⟨z.gl,0,none⟩) z.b.ls.length z.cl,.slice (some ⟨z.gt,0,none⟩) z.b.ts.length z.ct,.int .i64 z.b.lot]) rfl hHeld ?_
  try simp only[Act.put,zA,zB,zC]
  refine zR 6 rfl (fun K hK=>?_)
  go_simp
  go_wp2_with fail
  refine(iNew _).mono ?_
  rintro e v2 ⟨rfl,b6⟩
  have b7:Below v1.heap.size v1 v2:=⟨b6.os,b6.tape,b6.output,b6.size,b6.block⟩
  replace G1:=zh ((zu G1).step b7)
  clear b6 b7
  go_wp2_with fail
  refine hK.out _ _ ⟨(zu G1).k.c1,(zu G1).k.c2,(zu G1).k.c3,(zu G1).k.c4,(zu G1).k.c5,(zu G1).k.c6,(zu G1).k.c7,(zu G1).k.c8,(zu G1).k.c9,(zu G1).k.c10⟩ (fun hHeld=>?_)
  clear hK K
  try simp only[Act.put,zA,zB,zC]
  refine zR 7 rfl (fun K hK=>?_)
  go_simp
  go_wp2_with fail
  refine(SameZI17.iSameZ _ z false (zu G1).rb (zu NB)).mono ?_
  rintro e v3 ⟨rfl,b6⟩
  have b7:Below v2.heap.size v2 v3:=⟨b6.os,b6.tape,b6.output,b6.size,b6.block⟩
  replace G1:=zh ((zu G1).step b7)
  clear b6 b7
  go_wp2_with fail
  refine hK.out _ _ ⟨(zu G1).k.c1,(zu G1).k.c2,(zu G1).k.c3,(zu G1).k.c4,(zu G1).k.c5,(zu G1).k.c6,(zu G1).k.c7,(zu G1).k.c8,(zu G1).k.c9,(zu G1).k.c10⟩ (fun hHeld=>?_)
  clear hK K
  try simp only[Act.put,zA,zB,zC]
  refine zT 8 18 (.bool false) rfl hHeld ?_
  try simp only[Act.put,zA,zB,zC]
  refine zT 9 19 (.bool false) rfl hHeld ?_
  try simp only[Act.put,zA,zB,zC]
  refine zS 10 20 rfl hHeld ?_
  try simp only[Act.put,zA,zB,zC]
  refine zS 11 21 rfl hHeld ?_
  try simp only[Act.put,zA,zB,zC]
  refine zS 12 22 rfl hHeld ?_
  try simp only[Act.put,zA,zB,zC]
  refine zT 13 23 (.bool false) rfl hHeld ?_
  try simp only[Act.put,zA,zB,zC]
  refine zT 14 24 (.bool false) rfl hHeld ?_
  try simp only[Act.put,zA,zB,zC]
  refine zS 15 25 rfl hHeld ?_
  try simp only[Act.put,zA,zB,zC]
  refine zS 16 26 rfl hHeld ?_
  try simp only[Act.put,zA,zB,zC]
  refine zS 17 27 rfl hHeld ?_
  try simp only[Act.put,zA,zB,zC]
  refine zT 18 28 (.bool false) rfl hHeld ?_
  try simp only[Act.put,zA,zB,zC]
  refine zT 19 2 (.bool false) rfl hHeld ?_
  try simp only[Act.put,zA,zB,zC]
  refine wpAnyH_done (by kernel_rfl) ?_ _
  go_wp2
  go_ret
  exact⟨by rw[zu V];first|rfl|simp,(zu G1).b⟩
 |true=>
 cases s0 with
 |false=>
  refine wp_region_held_drew (S:=(fun w'=>w'.cell? ⟨w.heap.size,1,none⟩=some (.int .i64 x.room)∧w'.cell? ⟨w.heap.size,2,none⟩=some (.slice x.a x.ps.length x.c)∧w'.cell? ⟨w.heap.size,3,none⟩=some (.slice (some ⟨z.ga,0,none⟩) z.b.ac.length z.ca)∧w'.cell? ⟨w.heap.size,4,none⟩=some (.slice (some ⟨z.gi,0,none⟩) z.b.ic.length z.ci)∧w'.cell? ⟨w.heap.size,5,none⟩=some (.slice (some ⟨z.gb,0,none⟩) z.b.bs.length z.cb)∧w'.cell? ⟨w.heap.size,6,none⟩=some (.slice (some ⟨z.gl,0,none⟩) z.b.ls.length z.cl)∧w'.cell? ⟨w.heap.size,7,none⟩=some (.slice (some ⟨z.gt,0,none⟩) z.b.ts.length z.ct)∧w'.cell? ⟨w.heap.size,8,none⟩=some (.int .i64 z.b.lot)∧w'.cell? ⟨w.heap.size,9,none⟩=some (.int .i64 sg)∧w'.cell? ⟨w.heap.size,10,none⟩=some (.int .i64 ct))) (by kernel_rfl) ⟨(zu G1).k.c1,(zu G1).k.c2,(zu G1).k.c3,(zu G1).k.c4,(zu G1).k.c5,(zu G1).k.c6,(zu G1).k.c7,(zu G1).k.c8,(zu G1).k.c9,(zu G1).k.c10⟩ (fun hHeld=>?_)
  refine zT 0 10 (.pointer (some ⟨w.heap.size,1,none⟩)) rfl hHeld ?_
  try simp only[Act.put,zA,zB,zC]
  refine zT 1 11 (.agg #[.int .i64 x.room,.slice x.a x.ps.length x.c]) rfl hHeld ?_
  try simp only[Act.put,zA,zB,zC]
  refine zR 2 rfl (fun K hK=>?_)
  go_simp
  go_wp2_with fail
  refine(iAllSafe _ x true ((zu G1).r.below (Below.refl _ _).drew) (zu NL)).mono ?_
  rintro e v1 ⟨rfl,b6⟩
  have b7:Below u.heap.size u v1:=⟨b6.os,b6.tape,b6.output,b6.size,b6.block⟩
  replace G1:=zh ((zu G1).step b7)
  clear b6 b7
  go_wp2_with fail
  refine hK.out _ _ ⟨(zu G1).k.c1,(zu G1).k.c2,(zu G1).k.c3,(zu G1).k.c4,(zu G1).k.c5,(zu G1).k.c6,(zu G1).k.c7,(zu G1).k.c8,(zu G1).k.c9,(zu G1).k.c10⟩ (fun hHeld=>?_)
  clear hK K
  try simp only[Act.put,zA,zB,zC]
  refine zT 3 13 (.bool true) rfl hHeld ?_
  try simp only[Act.put,zA,zB,zC]
  refine zT 4 14 (.pointer (some ⟨w.heap.size,3,none⟩)) rfl hHeld ?_
  try simp only[Act.put,zA,zB,zC]
  refine zT 5 15 (.agg #[.slice (some ⟨z.ga,0,none⟩) z.b.ac.length z.ca,.slice (some ⟨z.gi,0,none⟩) z.b.ic.length z.ci,.slice (some ⟨z.gb,0,none⟩) z.b.bs.length z.cb,.slice (some ⟨z.gl,0,none⟩) z.b.ls.length z.cl,.slice (some ⟨z.gt,0,none⟩) z.b.ts.length z.ct,.int .i64 z.b.lot]) rfl hHeld ?_
  try simp only[Act.put,zA,zB,zC]
  refine zR 6 rfl (fun K hK=>?_)
  go_simp
  go_wp2_with fail
  refine(iNew _).mono ?_
  rintro e v2 ⟨rfl,b6⟩
  have b7:Below v1.heap.size v1 v2:=⟨b6.os,b6.tape,b6.output,b6.size,b6.block⟩
  replace G1:=zh ((zu G1).step b7)
  clear b6 b7
  go_wp2_with fail
  refine hK.out _ _ ⟨(zu G1).k.c1,(zu G1).k.c2,(zu G1).k.c3,(zu G1).k.c4,(zu G1).k.c5,(zu G1).k.c6,(zu G1).k.c7,(zu G1).k.c8,(zu G1).k.c9,(zu G1).k.c10⟩ (fun hHeld=>?_)
  clear hK K
  try simp only[Act.put,zA,zB,zC]
  refine zR 7 rfl (fun K hK=>?_)
  go_simp
  go_wp2_with fail
  refine(SameZI17.iSameZ _ z true (zu G1).rb (zu NB)).mono ?_
  rintro e v3 ⟨rfl,b6⟩
  have b7:Below v2.heap.size v2 v3:=⟨b6.os,b6.tape,b6.output,b6.size,b6.block⟩
  replace G1:=zh ((zu G1).step b7)
  clear b6 b7
  go_wp2_with fail
  refine hK.out _ _ ⟨(zu G1).k.c1,(zu G1).k.c2,(zu G1).k.c3,(zu G1).k.c4,(zu G1).k.c5,(zu G1).k.c6,(zu G1).k.c7,(zu G1).k.c8,(zu G1).k.c9,(zu G1).k.c10⟩ (fun hHeld=>?_)
  clear hK K
  try simp only[Act.put,zA,zB,zC]
  refine zT 8 18 (.bool true) rfl hHeld ?_
  try simp only[Act.put,zA,zB,zC]
  refine zT 9 19 (.bool true) rfl hHeld ?_
  try simp only[Act.put,zA,zB,zC]
  refine zT 10 20 (.pointer (some ⟨w.heap.size,9,none⟩)) rfl hHeld ?_
  try simp only[Act.put,zA,zB,zC]
  refine zT 11 21 (.int .i64 sg) rfl hHeld ?_
  try simp only[Act.put,zA,zB,zC]
  refine zT 12 22 (.bool false) rfl hHeld ?_
  try simp only[Act.put,zA,zB,zC]
  refine zT 13 23 (.bool false) rfl hHeld ?_
  try simp only[Act.put,zA,zB,zC]
  refine zT 14 24 (.bool false) rfl hHeld ?_
  try simp only[Act.put,zA,zB,zC]
  refine zS 15 25 rfl hHeld ?_
  try simp only[Act.put,zA,zB,zC]
  refine zS 16 26 rfl hHeld ?_
  try simp only[Act.put,zA,zB,zC]
  refine zS 17 27 rfl hHeld ?_
  try simp only[Act.put,zA,zB,zC]
  refine zT 18 28 (.bool false) rfl hHeld ?_
  try simp only[Act.put,zA,zB,zC]
  refine zT 19 2 (.bool false) rfl hHeld ?_
  try simp only[Act.put,zA,zB,zC]
  refine wpAnyH_done (by kernel_rfl) ?_ _
  go_wp2
  go_ret
  exact⟨by rw[zu V];first|rfl|simp,(zu G1).b⟩
 |true=>
 refine wp_region_held_drew (S:=(fun w'=>w'.cell? ⟨w.heap.size,1,none⟩=some (.int .i64 x.room)∧w'.cell? ⟨w.heap.size,2,none⟩=some (.slice x.a x.ps.length x.c)∧w'.cell? ⟨w.heap.size,3,none⟩=some (.slice (some ⟨z.ga,0,none⟩) z.b.ac.length z.ca)∧w'.cell? ⟨w.heap.size,4,none⟩=some (.slice (some ⟨z.gi,0,none⟩) z.b.ic.length z.ci)∧w'.cell? ⟨w.heap.size,5,none⟩=some (.slice (some ⟨z.gb,0,none⟩) z.b.bs.length z.cb)∧w'.cell? ⟨w.heap.size,6,none⟩=some (.slice (some ⟨z.gl,0,none⟩) z.b.ls.length z.cl)∧w'.cell? ⟨w.heap.size,7,none⟩=some (.slice (some ⟨z.gt,0,none⟩) z.b.ts.length z.ct)∧w'.cell? ⟨w.heap.size,8,none⟩=some (.int .i64 z.b.lot)∧w'.cell? ⟨w.heap.size,9,none⟩=some (.int .i64 sg)∧w'.cell? ⟨w.heap.size,10,none⟩=some (.int .i64 ct))) (by kernel_rfl) ⟨(zu G1).k.c1,(zu G1).k.c2,(zu G1).k.c3,(zu G1).k.c4,(zu G1).k.c5,(zu G1).k.c6,(zu G1).k.c7,(zu G1).k.c8,(zu G1).k.c9,(zu G1).k.c10⟩ (fun hHeld=>?_)
 refine zT 0 10 (.pointer (some ⟨w.heap.size,1,none⟩)) rfl hHeld ?_
 try simp only[Act.put,zA,zB,zC]
 refine zT 1 11 (.agg #[.int .i64 x.room,.slice x.a x.ps.length x.c]) rfl hHeld ?_
 try simp only[Act.put,zA,zB,zC]
 refine zR 2 rfl (fun K hK=>?_)
 go_simp
 go_wp2_with fail
 refine(iAllSafe _ x true ((zu G1).r.below (Below.refl _ _).drew) (zu NL)).mono ?_
 rintro e v1 ⟨rfl,b6⟩
 have b7:Below u.heap.size u v1:=⟨b6.os,b6.tape,b6.output,b6.size,b6.block⟩
 replace G1:=zh ((zu G1).step b7)
 clear b6 b7
 go_wp2_with fail
 refine hK.out _ _ ⟨(zu G1).k.c1,(zu G1).k.c2,(zu G1).k.c3,(zu G1).k.c4,(zu G1).k.c5,(zu G1).k.c6,(zu G1).k.c7,(zu G1).k.c8,(zu G1).k.c9,(zu G1).k.c10⟩ (fun hHeld=>?_)
 clear hK K
 try simp only[Act.put,zA,zB,zC]
 refine zT 3 13 (.bool true) rfl hHeld ?_
 try simp only[Act.put,zA,zB,zC]
 refine zT 4 14 (.pointer (some ⟨w.heap.size,3,none⟩)) rfl hHeld ?_
 try simp only[Act.put,zA,zB,zC]
 refine zT 5 15 (.agg #[.slice (some ⟨z.ga,0,none⟩) z.b.ac.length z.ca,.slice (some ⟨z.gi,0,none⟩) z.b.ic.length z.ci,.slice (some ⟨z.gb,0,none⟩) z.b.bs.length z.cb,.slice (some ⟨z.gl,0,none⟩) z.b.ls.length z.cl,.slice (some ⟨z.gt,0,none⟩) z.b.ts.length z.ct,.int .i64 z.b.lot]) rfl hHeld ?_
 try simp only[Act.put,zA,zB,zC]
 refine zR 6 rfl (fun K hK=>?_)
 go_simp
 go_wp2_with fail
 refine(iNew _).mono ?_
 rintro e v2 ⟨rfl,b6⟩
 have b7:Below v1.heap.size v1 v2:=⟨b6.os,b6.tape,b6.output,b6.size,b6.block⟩
 replace G1:=zh ((zu G1).step b7)
 clear b6 b7
 go_wp2_with fail
 refine hK.out _ _ ⟨(zu G1).k.c1,(zu G1).k.c2,(zu G1).k.c3,(zu G1).k.c4,(zu G1).k.c5,(zu G1).k.c6,(zu G1).k.c7,(zu G1).k.c8,(zu G1).k.c9,(zu G1).k.c10⟩ (fun hHeld=>?_)
 clear hK K
 try simp only[Act.put,zA,zB,zC]
 refine zR 7 rfl (fun K hK=>?_)
 go_simp
 go_wp2_with fail
 refine(SameZI17.iSameZ _ z true (zu G1).rb (zu NB)).mono ?_
 rintro e v3 ⟨rfl,b6⟩
 have b7:Below v2.heap.size v2 v3:=⟨b6.os,b6.tape,b6.output,b6.size,b6.block⟩
 replace G1:=zh ((zu G1).step b7)
 clear b6 b7
 go_wp2_with fail
 refine hK.out _ _ ⟨(zu G1).k.c1,(zu G1).k.c2,(zu G1).k.c3,(zu G1).k.c4,(zu G1).k.c5,(zu G1).k.c6,(zu G1).k.c7,(zu G1).k.c8,(zu G1).k.c9,(zu G1).k.c10⟩ (fun hHeld=>?_)
 clear hK K
 try simp only[Act.put,zA,zB,zC]
 refine zT 8 18 (.bool true) rfl hHeld ?_
 try simp only[Act.put,zA,zB,zC]
 refine zT 9 19 (.bool true) rfl hHeld ?_
 try simp only[Act.put,zA,zB,zC]
 refine zT 10 20 (.pointer (some ⟨w.heap.size,9,none⟩)) rfl hHeld ?_
 try simp only[Act.put,zA,zB,zC]
 refine zT 11 21 (.int .i64 sg) rfl hHeld ?_
 try simp only[Act.put,zA,zB,zC]
 refine zT 12 22 (.bool true) rfl hHeld ?_
 try simp only[Act.put,zA,zB,zC]
 refine zT 13 23 (.bool true) rfl hHeld ?_
 try simp only[Act.put,zA,zB,zC]
 refine zT 14 24 (.bool true) rfl hHeld ?_
 try simp only[Act.put,zA,zB,zC]
 refine zT 15 25 (.pointer (some ⟨w.heap.size,10,none⟩)) rfl hHeld ?_
 try simp only[Act.put,zA,zB,zC]
 refine zT 16 26 (.int .i64 ct) rfl hHeld ?_
 try simp only[Act.put,zA,zB,zC]
 refine zT 17 27 (.bool s1) rfl hHeld ?_
 try simp only[Act.put,zA,zB,zC]
 refine zT 18 28 (.bool s1) rfl hHeld ?_
 try simp only[Act.put,zA,zB,zC]
 refine zT 19 2 (.bool s1) rfl hHeld ?_
 try simp only[Act.put,zA,zB,zC]
 refine wpAnyH_done (by kernel_rfl) ?_ _
 go_wp2
 go_ret
 exact⟨by rw[zu V];first|rfl|simp,(zu G1).b⟩
end IEngOk17
end Go.Proofs.YtppkkmaoaiopaaaGreat
