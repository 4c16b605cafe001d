/- Texts of one proof, one behind the other: NilB, LawV, IssueTellI. -/
import Derived.Test.YtnmeiiaipacplaaGreatRows
import Derived.Test.YtnmeiiaipacplaaGreatSG1
import Derived.Test.YtnmeiiaipacplaaGreatSG2
import Derived.Test.YtnmeiiaipacplaaGreatSG3
import Derived.Test.YtnmeiiaipacplaaGreatSG4
import Derived.Test.YtnmeiiaipacplaaGreatSG5
import Derived.Test.YtnmeiiaipacplaaGreatSG6
import Derived.Test.YtnmeiiaipacplaaGreatSG7
set_option linter.unusedVariables false
set_option linter.unusedSimpArgs false
open Go.ChangeShapes Go.WideShapes Go.ChangeAt Go.RowKit
set_option maxRecDepth 100000
set_option maxHeartbeats 32000000
namespace Go.Proofs.YtnmeiiaipacplaaGreat
namespace NilB
open BMem Bks ILists BHelp BkEq
open IBalsFit (one_more)
open ICmdV (OwN)
structure ClN(w:World)(g:Nat)(x:Bx):Prop where
 c0:w.cell? ⟨g,0,none⟩=some (.slice (some ⟨x.ga,0,none⟩) x.b.ac.length x.ca)
 c1:w.cell? ⟨g,1,none⟩=some (.slice (some ⟨x.gi,0,none⟩) x.b.ic.length x.ci)
 c2:w.cell? ⟨g,2,none⟩=some (.slice (some ⟨x.gb,0,none⟩) x.b.bs.length x.cb)
 c3:w.cell? ⟨g,3,none⟩=some (.slice none 0 0)
 c4:w.cell? ⟨g,4,none⟩=some (.slice (some ⟨x.gt,0,none⟩) x.b.ts.length x.ct)
 c5:w.cell? ⟨g,5,none⟩=some (.int .i64 x.b.lot)
theorem ClN.below{w w':World}{B g:Nat}{x:Bx}(h:ClN w g x)(k:Below B w w')(hg:g<B):ClN w' g x:=
 ⟨(k.cell (p:=⟨g,0,none⟩) hg).trans h.c0,(k.cell (p:=⟨g,1,none⟩) hg).trans h.c1,(k.cell (p:=⟨g,2,none⟩) hg).trans h.c2,(k.cell (p:=⟨g,3,none⟩) hg).trans h.c3,(k.cell (p:=⟨g,4,none⟩) hg).trans h.c4,(k.cell (p:=⟨g,5,none⟩) hg).trans h.c5⟩
theorem boxedN(w:World)(x:Bx)(e:TypeId):ClN (w.alloc (.cells #[.slice (some ⟨x.ga,0,none⟩) x.b.ac.length x.ca,.slice (some ⟨x.gi,0,none⟩) x.b.ic.length x.ci,.slice (some ⟨x.gb,0,none⟩) x.b.bs.length x.cb,.slice none 0 0,.slice (some ⟨x.gt,0,none⟩) x.b.ts.length x.ct,.int .i64 x.b.lot] e)) w.heap.size x:=⟨by simp,by simp,by simp,by simp,by simp,by simp⟩
theorem e34{b:Bk}(h:b.ls=[]):e4 b=e3 b:=by unfold e4;rw[h];simp
theorem OwN.rd{w:World}{base:Nat}{x:Bx}(h:OwN w base x)(s:Small x.b):Rd w x:=by
 exact⟨h.oa.lt.2,h.oa.at,s.1,h.oi.lt.2,h.oi.at,s.2.1,h.ob.lt.2,h.ob.at,s.2.2.1,by rw[h.gl];exact h.oa.lt.2,by rw[h.nl];exact fun i hi=>absurd hi (by simp),s.2.2.2.1,by rw[h.nl];simp,by rw[h.cl];omega,h.ot.lt.2,h.ot.at,s.2.2.2.2⟩
structure TwoN(w W:World)(x y:Bx):Prop where
 rx:Rd W x
 ry:Rd W y
 cx:ClN W w.heap.size x
 cy:Cl W (w.heap.size+1) y
 b:Below w.heap.size w W
 s:w.heap.size+1<W.heap.size
theorem TwoN.step{w W W':World}{x y:Bx}(h:TwoN w W x y)(k:Below W.heap.size W W'):TwoN w W' x y:=
 ⟨h.rx.below k,h.ry.below k,h.cx.below k (by have:=h.s;omega),h.cy.below k h.s,h.b.trans (k.mono h.b.size),Nat.lt_of_lt_of_le h.s k.size⟩
theorem TwoN.start{w:World}{x y:Bx}(hx:Rd w x)(hy:Rd w y)(e:TypeId):TwoN w ((w.alloc (.cells #[.slice (some ⟨x.ga,0,none⟩) x.b.ac.length x.ca,.slice (some ⟨x.gi,0,none⟩) x.b.ic.length x.ci,.slice (some ⟨x.gb,0,none⟩) x.b.bs.length x.cb,.slice none 0 0,.slice (some ⟨x.gt,0,none⟩) x.b.ts.length x.ct,.int .i64 x.b.lot] e)).alloc (.cells #[.slice (some ⟨y.ga,0,none⟩) y.b.ac.length y.ca,.slice (some ⟨y.gi,0,none⟩) y.b.ic.length y.ci,.slice (some ⟨y.gb,0,none⟩) y.b.bs.length y.cb,.slice (some ⟨y.gl,0,none⟩) y.b.ls.length y.cl,.slice (some ⟨y.gt,0,none⟩) y.b.ts.length y.ct,.int .i64 y.b.lot] e)) x y:=by
 have c:=boxed (w.alloc (.cells #[.slice (some ⟨x.ga,0,none⟩) x.b.ac.length x.ca,.slice (some ⟨x.gi,0,none⟩) x.b.ic.length x.ci,.slice (some ⟨x.gb,0,none⟩) x.b.bs.length x.cb,.slice none 0 0,.slice (some ⟨x.gt,0,none⟩) x.b.ts.length x.ct,.int .i64 x.b.lot] e)) y e
 have c':Cl ((w.alloc (.cells #[.slice (some ⟨x.ga,0,none⟩) x.b.ac.length x.ca,.slice (some ⟨x.gi,0,none⟩) x.b.ic.length x.ci,.slice (some ⟨x.gb,0,none⟩) x.b.bs.length x.cb,.slice none 0 0,.slice (some ⟨x.gt,0,none⟩) x.b.ts.length x.ct,.int .i64 x.b.lot] e)).alloc (.cells #[.slice (some ⟨y.ga,0,none⟩) y.b.ac.length y.ca,.slice (some ⟨y.gi,0,none⟩) y.b.ic.length y.ci,.slice (some ⟨y.gb,0,none⟩) y.b.bs.length y.cb,.slice (some ⟨y.gl,0,none⟩) y.b.ls.length y.cl,.slice (some ⟨y.gt,0,none⟩) y.b.ts.length y.ct,.int .i64 y.b.lot] e)) (w.heap.size+1) y:=by simpa using c
 exact⟨(hx.alloc _).alloc _,(hy.alloc _).alloc _,(boxedN w x e).below (one_more _ _) (by simp),c',((Below.refl w.heap.size w).alloc (Nat.le_refl _) _).alloc (by simp) _,by simp⟩
theorem eqBn(w:World)(x y:Bx)(hb:y.b=x.b)(nil:x.b.ls=[])(hx:Rd w x)(hy:Rd w y):
  Calls Tryz.prog 11 #[.agg #[.slice (some ⟨x.ga,0,none⟩) x.b.ac.length x.ca,.slice (some ⟨x.gi,0,none⟩) x.b.ic.length x.ci,.slice (some ⟨x.gb,0,none⟩) x.b.bs.length x.cb,.slice none 0 0,.slice (some ⟨x.gt,0,none⟩) x.b.ts.length x.ct,.int .i64 x.b.lot],.agg #[.slice (some ⟨y.ga,0,none⟩) y.b.ac.length y.ca,.slice (some ⟨y.gi,0,none⟩) y.b.ic.length y.ci,.slice (some ⟨y.gb,0,none⟩) y.b.bs.length y.cb,.slice (some ⟨y.gl,0,none⟩) y.b.ls.length y.cl,.slice (some ⟨y.gt,0,none⟩) y.b.ts.length y.ct,.int .i64 y.b.lot]] w fun e w'=>e= .returned (.bool true)∧Below w.heap.size w w':=by
 obtain⟨ga,ca,gi,ci,gb,cb,gl,cl,gt,ct,b⟩:=y
 obtain rfl:b=x.b:=hb
 have T0:=zh (TwoN.start hx hy 36)
 have na:=hx.na
 have ni:=hx.ni
 have nb:=hx.nb
 have nl:=hx.nl
 have nt:=hx.nt
 have NL:=zh nil
 clear hx hy nil
 go_enter Tryz.func11,Tryz.ntmps11
 go_wp2_with fail
 refine(AccountHelp.eqS _ x.ga ga _ x.ca ca x.b.ac rfl na (zu T0).rx.la (zu T0).ry.la (zu T0).rx.ra (zu T0).ry.ra).mono ?_
 rintro e w1 ⟨rfl,bb⟩
 have T1:=zh ((zu T0).step bb)
 clear bb
 have p1:=(zu T1).cx.c1
 have r1:=(zu T1).cy.c1
 go_wp2_with fail
 refine(InstrHelp.eqS _ x.gi gi _ x.ci ci x.b.ic rfl ni (zu T1).rx.li (zu T1).ry.li (zu T1).rx.ri (zu T1).ry.ri).mono ?_
 rintro e w2 ⟨rfl,bb⟩
 have T2:=zh ((zu T1).step bb)
 clear bb
 have p2:=(zu T2).cx.c2
 have r2:=(zu T2).cy.c2
 go_wp2_with fail
 refine(BalHelp.eqS _ x.gb gb _ x.cb cb x.b.bs rfl nb (zu T2).rx.lb (zu T2).ry.lb (zu T2).rx.rb (zu T2).ry.rb).mono ?_
 rintro e w3 ⟨rfl,bb⟩
 have T3:=zh ((zu T2).step bb)
 clear bb
 have p3:=(zu T3).cx.c3
 have r3:=(zu T3).cy.c3
 simp only[] at r3
 rw[zu NL,List.length_nil] at r3
 go_wp2_with fail
 refine(VHelp5.eq0 _ gl cl).mono ?_
 rintro e w4 ⟨rfl,bb⟩
 have T4:=zh ((zu T3).step bb)
 clear bb
 have p4:=(zu T4).cx.c4
 have r4:=(zu T4).cy.c4
 go_wp2_with fail
 refine(TradeHelp.eqS _ x.gt gt _ x.ct ct x.b.ts rfl nt (zu T4).rx.lt (zu T4).ry.lt (zu T4).rx.rt (zu T4).ry.rt).mono ?_
 rintro e w5 ⟨rfl,bb⟩
 have T5:=zh ((zu T4).step bb)
 clear bb
 have p5:=(zu T5).cx.c5
 have r5:=(zu T5).cy.c5
 go_wp2
 go_ret
 exact⟨rfl,(zu T5).b⟩
structure OwMN(w:World)(base:Nat)(x:Bx):Prop where
 oa:Pairs.Own 92 w base x.ga x.b.ac.length x.ca (AccountMark.marks 1 x.b.ac.length)
 oi:Pairs.Own 111 w base x.gi x.b.ic.length x.ci (InstrMark.marks (e1 x.b) x.b.ic.length)
 ob:Triples.Own3 119 w base x.gb x.b.bs.length x.cb (BalHelp.marks (e2 x.b) x.b.bs.length)
 ot:Tup8.Own8 110 w base x.gt x.b.ts.length x.ct (TradeHelp.marks (e4 x.b) x.b.ts.length)
 nl:x.b.ls=[]∧x.gl=x.ga
theorem OwMN.below{w w':World}{base:Nat}{x:Bx}(h:OwMN w base x)(k:Below w.heap.size w w'):OwMN w' base x:=
 ⟨h.oa.below k h.oa.lt.2,h.oi.below k h.oi.lt.2,h.ob.below k h.ob.lt.2,h.ot.below k h.ot.lt.2,h.nl⟩
theorem markBn(w:World)(base:Nat)(x:Bx)(h:OwN w base x)(hs:Small x.b):
  Calls Tryz.prog 12 #[.agg #[.slice (some ⟨x.ga,0,none⟩) x.b.ac.length x.ca,.slice (some ⟨x.gi,0,none⟩) x.b.ic.length x.ci,.slice (some ⟨x.gb,0,none⟩) x.b.bs.length x.cb,.slice none 0 0,.slice (some ⟨x.gt,0,none⟩) x.b.ts.length x.ct,.int .i64 x.b.lot],.int .i64 1] w fun e w'=>e= .returned (.int .i64 (e5 x.b))∧OwMN w' base x∧Turn x w w':=by
 obtain⟨⟨l1,u1⟩,⟨l2,u2⟩,⟨l3,u3⟩,⟨l4,u4⟩,⟨l5,u5⟩⟩:=e_bd hs
 obtain⟨na,ni,nb,nl,nt⟩:=hs
 have xai:x.ga≠x.gi:=row_apart h.oa h.oi (by decide)
 have xab:x.ga≠x.gb:=row_apart h.oa h.ob (by decide)
 have xat:x.ga≠x.gt:=row_apart h.oa h.ot (by decide)
 have xib:x.gi≠x.gb:=row_apart h.oi h.ob (by decide)
 have xit:x.gi≠x.gt:=row_apart h.oi h.ot (by decide)
 have xbt:x.gb≠x.gt:=row_apart h.ob h.ot (by decide)
 have za:w.heap.size≠x.ga:=by have:=h.oa.lt;omega
 have Oa:=zh (h.oa.alloc (.cells #[.slice (some ⟨x.ga,0,none⟩) x.b.ac.length x.ca,.slice (some ⟨x.gi,0,none⟩) x.b.ic.length x.ci,.slice (some ⟨x.gb,0,none⟩) x.b.bs.length x.cb,.slice none 0 0,.slice (some ⟨x.gt,0,none⟩) x.b.ts.length x.ct,.int .i64 x.b.lot] 36))
 have zi:w.heap.size≠x.gi:=by have:=h.oi.lt;omega
 have Oi:=zh (h.oi.alloc (.cells #[.slice (some ⟨x.ga,0,none⟩) x.b.ac.length x.ca,.slice (some ⟨x.gi,0,none⟩) x.b.ic.length x.ci,.slice (some ⟨x.gb,0,none⟩) x.b.bs.length x.cb,.slice none 0 0,.slice (some ⟨x.gt,0,none⟩) x.b.ts.length x.ct,.int .i64 x.b.lot] 36))
 have zb:w.heap.size≠x.gb:=by have:=h.ob.lt;omega
 have Ob:=zh (h.ob.alloc (.cells #[.slice (some ⟨x.ga,0,none⟩) x.b.ac.length x.ca,.slice (some ⟨x.gi,0,none⟩) x.b.ic.length x.ci,.slice (some ⟨x.gb,0,none⟩) x.b.bs.length x.cb,.slice none 0 0,.slice (some ⟨x.gt,0,none⟩) x.b.ts.length x.ct,.int .i64 x.b.lot] 36))
 have zt:w.heap.size≠x.gt:=by have:=h.ot.lt;omega
 have Ot:=zh (h.ot.alloc (.cells #[.slice (some ⟨x.ga,0,none⟩) x.b.ac.length x.ca,.slice (some ⟨x.gi,0,none⟩) x.b.ic.length x.ci,.slice (some ⟨x.gb,0,none⟩) x.b.bs.length x.cb,.slice none 0 0,.slice (some ⟨x.gt,0,none⟩) x.b.ts.length x.ct,.int .i64 x.b.lot] 36))
 have T0:=zh ((Turn.refl x w).alloc (.cells #[.slice (some ⟨x.ga,0,none⟩) x.b.ac.length x.ca,.slice (some ⟨x.gi,0,none⟩) x.b.ic.length x.ci,.slice (some ⟨x.gb,0,none⟩) x.b.bs.length x.cb,.slice none 0 0,.slice (some ⟨x.gt,0,none⟩) x.b.ts.length x.ct,.int .i64 x.b.lot] 36))
 have C0:=zh (boxedN w x 36)
 have E34:=zh (e34 h.nl)
 have NN:=zh (show x.b.ls=[]∧x.gl=x.ga from⟨h.nl,h.gl⟩)
 clear h
 go_enter Tryz.func12,Tryz.ntmps12
 go_wp2_with fail
 refine(AccountMark.markS _ base x.ga _ x.ca 1 x.b.ac na (by omega) (by omega) (zu Oa)).mono ?_
 rintro e w1 ⟨he,o,gr⟩
 replace he:e= .returned (.int .i64 (e1 x.b)):=he
 subst he
 have T1:=zh ((zu T0).grown gr (by simp))
 have C1:=zh (show ClN w1 w.heap.size x from⟨gr.cell (zu C0).c0 (fun e=>za (by injection e)),gr.cell (zu C0).c1 (fun e=>za (by injection e)),gr.cell (zu C0).c2 (fun e=>za (by injection e)),gr.cell (zu C0).c3 (fun e=>za (by injection e)),gr.cell (zu C0).c4 (fun e=>za (by injection e)),gr.cell (zu C0).c5 (fun e=>za (by injection e))⟩)
 replace Oa:=zh o
 replace Oi:=zh ((zu Oi).kept gr (fun e=>xai (by injection e with e;exact e.symm)))
 replace Ob:=zh ((zu Ob).kept gr (fun e=>xab (by injection e with e;exact e.symm)))
 replace Ot:=zh ((zu Ot).kept gr (fun e=>xat (by injection e with e;exact e.symm)))
 clear o gr
 have p1:=(zu C1).c1
 go_wp2_with fail
 refine(InstrMark.markS _ base x.gi _ x.ci (e1 x.b) x.b.ic ni (by omega) (by omega) (zu Oi)).mono ?_
 rintro e w2 ⟨he,o,gr⟩
 replace he:e= .returned (.int .i64 (e2 x.b)):=he
 subst he
 have T2:=zh ((zu T1).grown gr (by simp))
 have C2:=zh (show ClN w2 w.heap.size x from⟨gr.cell (zu C1).c0 (fun e=>zi (by injection e)),gr.cell (zu C1).c1 (fun e=>zi (by injection e)),gr.cell (zu C1).c2 (fun e=>zi (by injection e)),gr.cell (zu C1).c3 (fun e=>zi (by injection e)),gr.cell (zu C1).c4 (fun e=>zi (by injection e)),gr.cell (zu C1).c5 (fun e=>zi (by injection e))⟩)
 replace Oi:=zh o
 replace Oa:=zh ((zu Oa).kept gr (fun e=>xai (by injection e)))
 replace Ob:=zh ((zu Ob).kept gr (fun e=>xib (by injection e with e;exact e.symm)))
 replace Ot:=zh ((zu Ot).kept gr (fun e=>xit (by injection e with e;exact e.symm)))
 clear o gr
 have p2:=(zu C2).c2
 go_wp2_with fail
 refine(BalHelp.markS _ base x.gb _ x.cb (e2 x.b) x.b.bs nb (by omega) (by omega) (zu Ob)).mono ?_
 rintro e w3 ⟨he,o,gr⟩
 replace he:e= .returned (.int .i64 (e3 x.b)):=he
 subst he
 have T3:=zh ((zu T2).grown gr (by simp))
 have C3:=zh (show ClN w3 w.heap.size x from⟨gr.cell (zu C2).c0 (fun e=>zb (by injection e)),gr.cell (zu C2).c1 (fun e=>zb (by injection e)),gr.cell (zu C2).c2 (fun e=>zb (by injection e)),gr.cell (zu C2).c3 (fun e=>zb (by injection e)),gr.cell (zu C2).c4 (fun e=>zb (by injection e)),gr.cell (zu C2).c5 (fun e=>zb (by injection e))⟩)
 replace Ob:=zh o
 replace Oa:=zh ((zu Oa).kept gr (fun e=>xab (by injection e)))
 replace Oi:=zh ((zu Oi).kept gr (fun e=>xib (by injection e)))
 replace Ot:=zh ((zu Ot).kept gr (fun e=>xbt (by injection e with e;exact e.symm)))
 clear o gr
 have p3:=(zu C3).c3
 go_wp2_with fail
 refine(VHelp5.mark0 _ (e3 x.b)).mono ?_
 rintro e w4 ⟨he,rfl⟩
 replace he:e= .returned (.int .i64 (e4 x.b)):=by rw[he,zu E34]
 subst he
 have T4:=zh (zu T3)
 have C4:=zh (zu C3)
 have p4:=(zu C4).c4
 go_wp2_with fail
 refine(TradeHelp.markS _ base x.gt _ x.ct (e4 x.b) x.b.ts nt (by omega) (by omega) (zu Ot)).mono ?_
 rintro e w5 ⟨he,o,gr⟩
 replace he:e= .returned (.int .i64 (e5 x.b)):=he
 subst he
 have T5:=zh ((zu T4).grown gr (by simp))
 have C5:=zh (show ClN w5 w.heap.size x from⟨gr.cell (zu C4).c0 (fun e=>zt (by injection e)),gr.cell (zu C4).c1 (fun e=>zt (by injection e)),gr.cell (zu C4).c2 (fun e=>zt (by injection e)),gr.cell (zu C4).c3 (fun e=>zt (by injection e)),gr.cell (zu C4).c4 (fun e=>zt (by injection e)),gr.cell (zu C4).c5 (fun e=>zt (by injection e))⟩)
 replace Ot:=zh o
 replace Oa:=zh ((zu Oa).kept gr (fun e=>xat (by injection e)))
 replace Oi:=zh ((zu Oi).kept gr (fun e=>xit (by injection e)))
 replace Ob:=zh ((zu Ob).kept gr (fun e=>xbt (by injection e)))
 clear o gr
 go_wp2
 go_ret
 exact⟨rfl,⟨zu Oa,zu Oi,zu Ob,zu Ot,zu NN⟩,zu T5⟩
theorem heldBn(w:World)(base:Nat)(x:Bx)(h:OwMN w base x)(hs:Small x.b):
  Calls Tryz.prog 13 #[.agg #[.slice (some ⟨x.ga,0,none⟩) x.b.ac.length x.ca,.slice (some ⟨x.gi,0,none⟩) x.b.ic.length x.ci,.slice (some ⟨x.gb,0,none⟩) x.b.bs.length x.cb,.slice none 0 0,.slice (some ⟨x.gt,0,none⟩) x.b.ts.length x.ct,.int .i64 x.b.lot],.int .i64 1] w fun e w'=>e= .returned (.int .i64 (e5 x.b))∧Below w.heap.size w w':=by
 obtain⟨⟨l1,u1⟩,⟨l2,u2⟩,⟨l3,u3⟩,⟨l4,u4⟩,⟨l5,u5⟩⟩:=e_bd hs
 obtain⟨na,ni,nb,nl,nt⟩:=hs
 have B0:=zh ((Below.refl w.heap.size w).alloc (Nat.le_refl _) (.cells #[.slice (some ⟨x.ga,0,none⟩) x.b.ac.length x.ca,.slice (some ⟨x.gi,0,none⟩) x.b.ic.length x.ci,.slice (some ⟨x.gb,0,none⟩) x.b.bs.length x.cb,.slice none 0 0,.slice (some ⟨x.gt,0,none⟩) x.b.ts.length x.ct,.int .i64 x.b.lot] 36))
 have H0:=zh (h.below (one_more w (.cells #[.slice (some ⟨x.ga,0,none⟩) x.b.ac.length x.ca,.slice (some ⟨x.gi,0,none⟩) x.b.ic.length x.ci,.slice (some ⟨x.gb,0,none⟩) x.b.bs.length x.cb,.slice none 0 0,.slice (some ⟨x.gt,0,none⟩) x.b.ts.length x.ct,.int .i64 x.b.lot] 36)))
 have t1:¬e1 x.b<0:=by omega
 have t2:¬e2 x.b<0:=by omega
 have t3:¬e3 x.b<0:=by omega
 have t4:¬e4 x.b<0:=by omega
 have t5:¬e5 x.b<0:=by omega
 have E34:=zh (e34 h.nl.1)
 clear h
 go_enter Tryz.func13,Tryz.ntmps13
 go_wp2_with fail
 refine(AccountMark.heldS _ x.ga _ x.ca 1 na (by omega) (by omega) (zu H0).oa.at).mono ?_
 rintro e w1 ⟨he,rfl⟩
 replace he:e= .returned (.int .i64 (e1 x.b)):=he
 subst he
 go_wp2_with fail
 refine(InstrMark.heldS _ x.gi _ x.ci (e1 x.b) ni (by omega) (by omega) (zu H0).oi.at).mono ?_
 rintro e w2 ⟨he,rfl⟩
 replace he:e= .returned (.int .i64 (e2 x.b)):=he
 subst he
 go_wp2_with fail
 refine(BalHeld.heldS _ x.gb _ x.cb (e2 x.b) nb (by omega) (by omega) (zu H0).ob.at).mono ?_
 rintro e w3 ⟨he,rfl⟩
 replace he:e= .returned (.int .i64 (e3 x.b)):=he
 subst he
 go_wp2_with fail
 refine(VHelp5.held0 _ (e3 x.b)).mono ?_
 rintro e w4 ⟨he,rfl⟩
 replace he:e= .returned (.int .i64 (e4 x.b)):=by rw[he,zu E34]
 subst he
 go_wp2_with fail
 refine(TradeHeld.heldS _ x.gt _ x.ct (e4 x.b) nt (by omega) (by omega) (zu H0).ot.at).mono ?_
 rintro e w5 ⟨he,rfl⟩
 replace he:e= .returned (.int .i64 (e5 x.b)):=he
 subst he
 go_wp2
 go_ret
 exact⟨rfl,zu B0⟩
end NilB
namespace LawV
open BMem Bks BHelp BkEq LawB LawQ NilB
open ICmdV (OwN)
open IBalsFit (one_more)
theorem _root_.Go.Proofs.YtnmeiiaipacplaaGreat.ICmdV.OwN.up{w:World}{base:Nat}{x:Bx}(h:OwN w base x):Up x w.heap.size:=⟨h.oa.lt.2,h.oi.lt.2,h.ob.lt.2,by rw[h.gl];exact h.oa.lt.2,h.ot.lt.2⟩
theorem _root_.Go.Proofs.YtnmeiiaipacplaaGreat.ICmdV.OwN.lo{w:World}{base:Nat}{x:Bx}(h:OwN w base x):Lo x base:=⟨h.oa.lt.1,h.oi.lt.1,h.ob.lt.1,by rw[h.gl];exact h.oa.lt.1,h.ot.lt.1⟩
theorem _root_.Go.Proofs.YtnmeiiaipacplaaGreat.ICmdV.OwN.below{w w':World}{base:Nat}{x:Bx}(h:OwN w base x)(k:Below w.heap.size w w'):OwN w' base x:=
 ⟨h.oa.below k h.oa.lt.2,h.oi.below k h.oi.lt.2,h.ob.below k h.ob.lt.2,h.ot.below k h.ot.lt.2,h.nl,h.gl,h.cl⟩
theorem _root_.Go.Proofs.YtnmeiiaipacplaaGreat.ICmdV.OwN.alloc{w:World}{base:Nat}{x:Bx}(h:OwN w base x)(o:Obj):OwN (w.alloc o) base x:=h.below ((Below.refl _ _).alloc (Nat.le_refl _) o)
theorem _root_.Go.Proofs.YtnmeiiaipacplaaGreat.ICmdV.OwN.rebase{w:World}{base base':Nat}{x:Bx}(h:OwN w base x)(hb:base'≤base):OwN w base' x:=
 ⟨h.oa.rebase (Nat.le_trans hb h.oa.lt.1),h.oi.rebase (Nat.le_trans hb h.oi.lt.1),h.ob.rebase (Nat.le_trans hb h.ob.lt.1),h.ot.rebase (Nat.le_trans hb h.ot.lt.1),h.nl,h.gl,h.cl⟩
theorem turn_owN{x y:Bx}{w u:World}{base:Nat}(h:Turn x w u)(k:OwN w base y)(ap:(∃N,Up x N∧Lo y N)∨∃N,Lo x N∧Up y N):OwN u base y:=by
 have hu:=k.up
 have all:∀g,(g=y.ga∨g=y.gi∨g=y.gb∨g=y.gl∨g=y.gt)→u.heap[g]?=w.heap[g]?:=by
  intro g hg
  refine h.block g ?_ ?_ ?_ ?_ ?_ ?_
  ·unfold Up at hu;omega
  all_goals
   rcases ap with⟨N,a,b⟩|⟨N,a,b⟩
   ·unfold Up at a;unfold Lo at b;omega
   ·unfold Lo at a;unfold Up at b;omega
 exact⟨row_block k.oa (all _ (by simp)),row_block k.oi (all _ (by simp)),row_block k.ob (all _ (by simp)),row_block k.ot (all _ (by simp)),k.nl,k.gl,k.cl⟩
structure BvN(W:World)(g:Nat)(x:Bx):Prop where
 c:ClN W g x
 l:g<W.heap.size
theorem BvN.step{W W':World}{g:Nat}{x:Bx}(h:BvN W g x)(k:Below W.heap.size W W'):BvN W' g x:=⟨h.c.below k h.l,Nat.lt_of_lt_of_le h.l k.size⟩
theorem BvN.made{w:World}{x:Bx}(e:TypeId):BvN (w.alloc (.cells #[.slice (some ⟨x.ga,0,none⟩) x.b.ac.length x.ca,.slice (some ⟨x.gi,0,none⟩) x.b.ic.length x.ci,.slice (some ⟨x.gb,0,none⟩) x.b.bs.length x.cb,.slice none 0 0,.slice (some ⟨x.gt,0,none⟩) x.b.ts.length x.ct,.int .i64 x.b.lot] e)) w.heap.size x:=⟨boxedN w x e,by simp⟩
theorem BvN.turn{W W':World}{g:Nat}{x z:Bx}(h:BvN W g x)(k:Turn z W W')(ne:(∃N,g<N∧Lo z N)∨∃N,N≤g∧Up z N):BvN W' g x:=by
 have e:W'.heap[g]?=W.heap[g]?:=by
  refine k.block g h.l ?_ ?_ ?_ ?_ ?_
  all_goals
   rcases ne with⟨N,a,b⟩|⟨N,a,b⟩
   ·unfold Lo at b;omega
   ·unfold Up at b;omega
 have cc:∀i,W'.cell? ⟨g,i,none⟩=W.cell? ⟨g,i,none⟩:=fun i=>World.cell?_of_block (w:=W) (w':=W') (a:=⟨g,i,none⟩) e
 exact⟨⟨(cc 0).trans h.c.c0,(cc 1).trans h.c.c1,(cc 2).trans h.c.c2,(cc 3).trans h.c.c3,(cc 4).trans h.c.c4,(cc 5).trans h.c.c5⟩,Nat.lt_of_lt_of_le h.l k.size⟩
structure QGN(w W:World)(y:Ix)(z x g:Bx)(pz px pg:Nat):Prop where
 q:QX w W y z x pz px
 bg:BvN W pg g
 og:OwN W (px+1) g
 ug:Up g pg
 k:px<pg
theorem QGN.step{w W W':World}{y:Ix}{z x g:Bx}{pz px pg:Nat}(h:QGN w W y z x g pz px pg)(k:Below W.heap.size W W'):QGN w W' y z x g pz px pg:=
 ⟨h.q.step k,h.bg.step k,h.og.below k,h.ug,h.k⟩
structure QMN(w W:World)(y:Ix)(z g:Bx)(pz pg:Nat):Prop where
 q:QZ w W y z pz
 bg:BvN W pg g
 og:OwN W (pz+1) g
 ug:Up g pg
 k:pz<pg
theorem QMN.step{w W W':World}{y:Ix}{z g:Bx}{pz pg:Nat}(h:QMN w W y z g pz pg)(k:Below W.heap.size W W'):QMN w W' y z g pz pg:=
 ⟨h.q.step k,h.bg.step k,h.og.below k,h.ug,h.k⟩
theorem QGN.turn{w W W':World}{y:Ix}{z x g:Bx}{pz px pg:Nat}(H:RdI w y)(h:QGN w W y z x g pz px pg)(t:Turn x W W'):QMN w W' y z g pz pg:=by
 have n:=h.q.q.n
 have m:=h.q.m
 have k:=h.k
 have lx:=ow_lo h.q.ox
 have lg:=h.og.lo
 exact⟨⟨LB.turn H h.q.q.l t (LawB.Lo.mono lx (by omega)),h.q.q.bz.turn t (.inl ⟨pz+1,by omega,lx⟩),t.ow h.q.q.oz (.inr ⟨pz,LawB.Lo.mono lx (by omega),h.q.q.uz⟩),h.q.q.uz,n⟩,h.bg.turn t (.inr ⟨px,by omega,h.q.ux⟩),(turn_owN t h.og (.inl ⟨px,h.q.ux,LawB.Lo.mono lg (by omega)⟩)).rebase (by omega),h.ug,by omega⟩
structure QHN(w W:World)(y:Ix)(z g:Bx)(pz pg:Nat):Prop where
 q:QZ w W y z pz
 bg:BvN W pg g
 og:OwMN W (pz+1) g
theorem QHN.step{w W W':World}{y:Ix}{z g:Bx}{pz pg:Nat}(h:QHN w W y z g pz pg)(k:Below W.heap.size W W'):QHN w W' y z g pz pg:=
 ⟨h.q.step k,h.bg.step k,h.og.below k⟩
theorem QMN.turn{w W W':World}{y:Ix}{z g:Bx}{pz pg:Nat}(H:RdI w y)(h:QMN w W y z g pz pg)(t:Turn g W W')(o:OwMN W' (pz+1) g):QHN w W' y z g pz pg:=by
 have n:=h.q.n
 have k:=h.k
 have lg:=h.og.lo
 exact⟨⟨LB.turn H h.q.l t (LawB.Lo.mono lg (by omega)),h.q.bz.turn t (.inl ⟨pz+1,by omega,lg⟩),t.ow h.q.oz (.inr ⟨pz,LawB.Lo.mono lg (by omega),h.q.uz⟩),h.q.uz,n⟩,h.bg.turn t (.inr ⟨pg,Nat.le_refl _,h.ug⟩),o⟩
end LawV
namespace IssueTellI
open BMem Bks ILists BHelp Ans ICopied ICmdB IHave
open SIssue (to_wb off_box)
open IBalsFit (one_more all_one)
open ITrade (at_new)
open Lots (Says says_of NoOk)
theorem says_and{a b:Bool}{p q:Prop}(h:Says a p)(k:Says b q):Says (a&&b) (p∧q):=by
 cases a<;>cases b
 ·exact⟨fun e=>Bool.noConfusion e,fun r=>absurd r.1 h.no⟩
 ·exact⟨fun e=>Bool.noConfusion e,fun r=>absurd r.1 h.no⟩
 ·exact⟨fun e=>Bool.noConfusion e,fun r=>absurd r.2 k.no⟩
 ·exact⟨fun _=>⟨h.yes,k.yes⟩,fun _=>rfl⟩
structure TW(w W:World)(x:Bx)(fa fb fi fq fk:Int):Prop where
 r:Rd W x
 c:Cl W w.heap.size x
 n1:W.cell? ⟨w.heap.size+1,0,none⟩=some (.int .i64 fa)
 n2:W.cell? ⟨w.heap.size+1+1,0,none⟩=some (.int .i64 fb)
 n3:W.cell? ⟨w.heap.size+1+1+1,0,none⟩=some (.int .i64 fi)
 n4:W.cell? ⟨w.heap.size+1+1+1+1,0,none⟩=some (.int .i64 fq)
 n5:W.cell? ⟨w.heap.size+1+1+1+1+1,0,none⟩=some (.int .i64 fk)
 v:Box W w.heap.size (w.heap.size+1+1+1+1+1+1) (.slice none 0 0) (.slice none 0 0) (.slice none 0 0) (.slice none 0 0) (.slice none 0 0) (.int .i64 0)
 b:Below w.heap.size w W
theorem TW.step{w W W':World}{x:Bx}{fa fb fi fq fk:Int}(h:TW w W x fa fb fi fq fk)(k:Below W.heap.size W W'):TW w W' x fa fb fi fq fk:=by
 have l:=h.v.lt
 exact⟨h.r.below k,h.c.below k (by omega),(k.cell (p:=⟨w.heap.size+1,0,none⟩) (by simp<;>omega)).trans h.n1,(k.cell (p:=⟨w.heap.size+1+1,0,none⟩) (by simp<;>omega)).trans h.n2,(k.cell (p:=⟨w.heap.size+1+1+1,0,none⟩) (by simp<;>omega)).trans h.n3,(k.cell (p:=⟨w.heap.size+1+1+1+1,0,none⟩) (by simp<;>omega)).trans h.n4,(k.cell (p:=⟨w.heap.size+1+1+1+1+1,0,none⟩) (by simp<;>omega)).trans h.n5,h.v.below k (by omega),h.b.trans (k.mono h.b.size)⟩
theorem more{w:World}{p:Addr}{v:Value}(h:w.cell? p=some v)(hp:p.block<w.heap.size)(o:Obj):(w.alloc o).cell? p=some v:=((one_more _ _).cell hp).trans h
theorem TW.start{w:World}{x:Bx}{fa fb fi fq fk:Int}(h:Rd w x):TW w (((((((w.alloc (.cells #[.slice (some ⟨x.ga,0,none⟩) x.b.ac.length x.ca,.slice (some ⟨x.gi,0,none⟩) x.b.ic.length x.ci,.slice (some ⟨x.gb,0,none⟩) x.b.bs.length x.cb,.slice (some ⟨x.gl,0,none⟩) x.b.ls.length x.cl,.slice (some ⟨x.gt,0,none⟩) x.b.ts.length x.ct,.int .i64 x.b.lot] 36)).alloc (.cells #[.int .i64 fa] 3)).alloc (.cells #[.int .i64 fb] 3)).alloc (.cells #[.int .i64 fi] 3)).alloc (.cells #[.int .i64 fq] 3)).alloc (.cells #[.int .i64 fk] 3)).alloc (.cells #[.slice none 0 0,.slice none 0 0,.slice none 0 0,.slice none 0 0,.slice none 0 0,.int .i64 0] 36)) x fa fb fi fq fk:=by
 have b:Below (w.heap.size+1) (w.alloc (.cells #[.slice (some ⟨x.ga,0,none⟩) x.b.ac.length x.ca,.slice (some ⟨x.gi,0,none⟩) x.b.ic.length x.ci,.slice (some ⟨x.gb,0,none⟩) x.b.bs.length x.cb,.slice (some ⟨x.gl,0,none⟩) x.b.ls.length x.cl,.slice (some ⟨x.gt,0,none⟩) x.b.ts.length x.ct,.int .i64 x.b.lot] 36)) (((((((w.alloc (.cells #[.slice (some ⟨x.ga,0,none⟩) x.b.ac.length x.ca,.slice (some ⟨x.gi,0,none⟩) x.b.ic.length x.ci,.slice (some ⟨x.gb,0,none⟩) x.b.bs.length x.cb,.slice (some ⟨x.gl,0,none⟩) x.b.ls.length x.cl,.slice (some ⟨x.gt,0,none⟩) x.b.ts.length x.ct,.int .i64 x.b.lot] 36)).alloc (.cells #[.int .i64 fa] 3)).alloc (.cells #[.int .i64 fb] 3)).alloc (.cells #[.int .i64 fi] 3)).alloc (.cells #[.int .i64 fq] 3)).alloc (.cells #[.int .i64 fk] 3)).alloc (.cells #[.slice none 0 0,.slice none 0 0,.slice none 0 0,.slice none 0 0,.slice none 0 0,.int .i64 0] 36)):=
  ((((((Below.refl _ _).alloc (by simp) _).alloc (by simp) _).alloc (by simp<;>omega) _).alloc (by simp<;>omega) _).alloc (by simp<;>omega) _).alloc (by simp<;>omega) _
 refine⟨h.below (((Below.refl w.heap.size w).alloc (Nat.le_refl _) _).trans (b.mono (by omega))),(boxed w x 36).below b (by omega),?_,?_,?_,?_,?_,Box.made _ _ _ _ _ _ (by simp<;>omega) (by simp),((Below.refl w.heap.size w).alloc (Nat.le_refl _) _).trans (b.mono (by omega))⟩
 ·exact more (more (more (more (more (cell_new _ _ _ (by simp)) (by simp) _) (by simp<;>omega) _) (by simp<;>omega) _) (by simp<;>omega) _) (by simp<;>omega) _
 ·exact more (more (more (more (cell_new _ _ _ (by simp)) (by simp) _) (by simp<;>omega) _) (by simp<;>omega) _) (by simp<;>omega) _
 ·exact more (more (more (cell_new _ _ _ (by simp)) (by simp) _) (by simp<;>omega) _) (by simp<;>omega) _
 ·exact more (more (cell_new _ _ _ (by simp)) (by simp) _) (by simp<;>omega) _
 ·exact more (cell_new _ _ _ (by simp)) (by simp) _
end IssueTellI
end Go.Proofs.YtnmeiiaipacplaaGreat
