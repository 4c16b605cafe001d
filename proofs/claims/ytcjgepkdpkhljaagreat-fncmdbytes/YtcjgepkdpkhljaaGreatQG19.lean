/- Lemmas. -/
import Derived.Test.YtcjgepkdpkhljaaGreatQG17
import Derived.Test.YtcjgepkdpkhljaaGreatQG18
open Go.ChangeShapes Go.WideShapes Go.ChangeAt Go.RowKit
set_option linter.unusedVariables false
set_option linter.unusedSimpArgs false
set_option maxRecDepth 100000
set_option maxHeartbeats 32000000
namespace Go.Proofs.YtcjgepkdpkhljaaGreat
namespace SBk
open BMem Bks ILists BHelp Ans
open Post2 (PostAnswers)
open IBalsFit (one_more)
open ILotsFit (below_of_drew)
open Lots (Says says_of NoOk)
open Bals (T3)
open Tup5 (T5)
structure SV(w W:World)(x:Bx):Prop where
 x:Box W w.heap.size w.heap.size (.slice (some ⟨x.ga,0,none⟩) x.b.ac.length x.ca) (.slice (some ⟨x.gi,0,none⟩) x.b.ic.length x.ci) (.slice (some ⟨x.gb,0,none⟩) x.b.bs.length x.cb) (.slice (some ⟨x.gl,0,none⟩) x.b.ls.length x.cl) (.slice (some ⟨x.gt,0,none⟩) x.b.ts.length x.ct) (.int .i64 x.b.lot)
 v:Box W w.heap.size (w.heap.size+1) (.slice none 0 0) (.slice none 0 0) (.slice none 0 0) (.slice none 0 0) (.slice none 0 0) (.int .i64 0)
 b:Below w.heap.size w W
theorem SV.start(w:World)(x:Bx):SV w ((w.alloc (.cells #[.slice (some ⟨x.ga,0,none⟩) x.b.ac.length x.ca,.slice (some ⟨x.gi,0,none⟩) x.b.ic.length x.ci,.slice (some ⟨x.gb,0,none⟩) x.b.bs.length x.cb,.slice (some ⟨x.gl,0,none⟩) x.b.ls.length x.cl,.slice (some ⟨x.gt,0,none⟩) x.b.ts.length x.ct,.int .i64 x.b.lot] 44)).alloc (.cells #[.slice none 0 0,.slice none 0 0,.slice none 0 0,.slice none 0 0,.slice none 0 0,.int .i64 0] 44)) x:=
 ⟨World.ownsRow.alloc (Box.made (w:=w) (base:=w.heap.size) (g:=w.heap.size) _ _ _ _ _ _ (Nat.le_refl _) rfl) _,Box.made _ _ _ _ _ _ (by simp) (by simp),((Below.refl w.heap.size w).alloc (Nat.le_refl _) _).alloc (by simp) _⟩
theorem SV.step{w W W':World}{x:Bx}(h:SV w W x)(k:Below W.heap.size W W'):SV w W' x:=by
 have l:=h.v.lt
 exact⟨h.x.below k (by omega),h.v.below k (by omega),h.b.trans (k.mono h.b.size)⟩
theorem SV.six{w W:World}{x:Bx}(h:SV w W x):W.cell? ⟨w.heap.size,0,none⟩=some (.slice (some ⟨x.ga,0,none⟩) x.b.ac.length x.ca)∧W.cell? ⟨w.heap.size,1,none⟩=some (.slice (some ⟨x.gi,0,none⟩) x.b.ic.length x.ci)∧W.cell? ⟨w.heap.size,2,none⟩=some (.slice (some ⟨x.gb,0,none⟩) x.b.bs.length x.cb)∧W.cell? ⟨w.heap.size,3,none⟩=some (.slice (some ⟨x.gl,0,none⟩) x.b.ls.length x.cl)∧W.cell? ⟨w.heap.size,4,none⟩=some (.slice (some ⟨x.gt,0,none⟩) x.b.ts.length x.ct)∧W.cell? ⟨w.heap.size,5,none⟩=some (.int .i64 x.b.lot):=⟨h.x.c0,h.x.c1,h.x.c2,h.x.c3,h.x.c4,h.x.c5⟩
abbrev withB(x:Bx)(g c:Nat)(qs:List T3):Bx:={x with gb:=g,cb:=c,b:={x.b with bs:=qs}}
abbrev withL(x:Bx)(g c:Nat)(qs:List T5)(lot:Int):Bx:={x with gl:=g,cl:=c,b:={x.b with ls:=qs,lot:=lot}}
theorem ow_withB{w:World}{base g c:Nat}{x:Bx}{qs:List T3}(h:Ow w base x)(o:Triples.Own3 184 w base g qs.length c qs):Ow w base (withB x g c qs):=⟨h.oa,h.oi,o,h.ol,h.ot⟩
theorem ow_withL{w:World}{base g c:Nat}{x:Bx}{qs:List T5}{lot:Int}(h:Ow w base x)(o:Tup5.Own5 188 w base g qs.length c qs):Ow w base (withL x g c qs lot):=⟨h.oa,h.oi,h.ob,o,h.ot⟩
theorem off_withB{x:Bx}{g c N p:Nat}{qs:List T3}(h:Up x N)(hp:N≤p)(hg:p<g):Off (withB x g c qs) p:=by
 unfold Up at h
 unfold Off withB
 simp
 omega
theorem off_withL{x:Bx}{g c N p:Nat}{qs:List T5}{lot:Int}(h:Up x N)(hp:N≤p)(hg:p<g):Off (withL x g c qs lot) p:=by
 unfold Up at h
 unfold Off withL
 simp
 omega
theorem sPost(w:World)(base:Nat)(x:Bx)(gL capL:Nat)(ls:List T3)(O:Ow w base x)(LI:Lists x.b)(s:Small x.b)(hl:ls.length≤1048576)(hgL:gL<w.heap.size)(hL:Triples.At3 w gL ls)(hf:Bals.Formed ls)(he:Bals.Even ls):
  Calls Tryz.prog 77 #[.agg #[.slice (some ⟨x.ga,0,none⟩) x.b.ac.length x.ca,.slice (some ⟨x.gi,0,none⟩) x.b.ic.length x.ci,.slice (some ⟨x.gb,0,none⟩) x.b.bs.length x.cb,.slice (some ⟨x.gl,0,none⟩) x.b.ls.length x.cl,.slice (some ⟨x.gt,0,none⟩) x.b.ts.length x.ct,.int .i64 x.b.lot],.slice (some ⟨gL,0,none⟩) ls.length capL] w fun e w'=>∃(y:Bx) (c:Int),IsPosted x.b ls y.b c∧e= .returned (.tuple #[.agg #[.slice (some ⟨y.ga,0,none⟩) y.b.ac.length y.ca,.slice (some ⟨y.gi,0,none⟩) y.b.ic.length y.ci,.slice (some ⟨y.gb,0,none⟩) y.b.bs.length y.cb,.slice (some ⟨y.gl,0,none⟩) y.b.ls.length y.cl,.slice (some ⟨y.gt,0,none⟩) y.b.ts.length y.ct,.int .i64 y.b.lot],.int .i64 c])∧Ow w' base y∧Below w.heap.size w w':=by
 have R0:=zh (O.rd s)
 have O0:=zh O
 have U0:=zh (ow_up O)
 have L0:=zh hL
 have S1:=zh (SV.start w x)
 have PC:=zh (fun qs c (hp:Bals.IsPost x.b.bs ls (shortL x.b.ac) qs c)=>post_code hp LI.2.2.1 hf he (Nat.le_trans (short_len _) LI.1.1))
 have xl:(shortL x.b.ac).length≤1048576:=Nat.le_trans (short_len _) s.1
 have nb:=s.2.2.1
 have hb:=O.oa.lt
 clear O hL hf he LI s
 go_enter Tryz.func77,Tryz.ntmps77
 go_wp2_with fail
 generalize ((w.alloc (.cells #[.slice (some ⟨x.ga,0,none⟩) x.b.ac.length x.ca,.slice (some ⟨x.gi,0,none⟩) x.b.ic.length x.ci,.slice (some ⟨x.gb,0,none⟩) x.b.bs.length x.cb,.slice (some ⟨x.gl,0,none⟩) x.b.ls.length x.cl,.slice (some ⟨x.gt,0,none⟩) x.b.ts.length x.ct,.int .i64 x.b.lot] 44)).alloc (.cells #[.slice none 0 0,.slice none 0 0,.slice none 0 0,.slice none 0 0,.slice none 0 0,.int .i64 0] 44))=w1 at *
 have K4:=(zu S1).six
 go_region_held3 (fun w'=>w'.cell? ⟨w.heap.size,0,none⟩=some (.slice (some ⟨x.ga,0,none⟩) x.b.ac.length x.ca)∧w'.cell? ⟨w.heap.size,1,none⟩=some (.slice (some ⟨x.gi,0,none⟩) x.b.ic.length x.ci)∧w'.cell? ⟨w.heap.size,2,none⟩=some (.slice (some ⟨x.gb,0,none⟩) x.b.bs.length x.cb)∧w'.cell? ⟨w.heap.size,3,none⟩=some (.slice (some ⟨x.gl,0,none⟩) x.b.ls.length x.cl)∧w'.cell? ⟨w.heap.size,4,none⟩=some (.slice (some ⟨x.gt,0,none⟩) x.b.ts.length x.ct)∧w'.cell? ⟨w.heap.size,5,none⟩=some (.int .i64 x.b.lot)) (first|exact K4|exact K5|exact K6)
  (first|(go_at_call 99;refine(Shorts.sShort w1.drew x ((zu R0).below (zu S1).b.drew)).mono ?_;rintro e w2 ⟨gS,cS,rfl,oS,bb⟩;have bW:Below w1.heap.size w1 w2:=below_of_drew bb;have S2:=zh ((zu S1).step bW);have K5:=(zu S2).six;have OS:=zh oS;clear oS bb bW)|(go_at_call 98;refine(SPost.sBalsPost w2 x.gb _ x.cb gL _ capL gS _ cS x.b.bs ls (shortL x.b.ac) rfl rfl rfl nb hl xl ((zu R0).below (zu S2).b).lb (Nat.lt_of_lt_of_le hgL (zu S2).b.size) (zu OS).lt.2 ((zu R0).below (zu S2).b).rb ((zu L0).below (zu S2).b hgL) (zu OS).at).mono ?_;rintro e w3 ⟨qs,pc,g5,k5,hp,rfl,o5,bb6⟩;have S3:=zh ((zu S2).step bb6);have K6:=(zu S3).six;have HP:=zh hp;have O5:=zh o5;have z2:=(zu S2).v.lt.2;clear hp o5 bb6))
 clear K4 K5 K6
 have OX:=zh ((zu O0).below (zu S3).b (Nat.le_refl _))
 have g5l:=(zu O5).lt.1
 have c0:=(zu S3).x.c0
 have c1:=(zu S3).x.c1
 have c2:=(zu S3).x.c2
 have c3:=(zu S3).x.c3
 have c4:=(zu S3).x.c4
 have c5:=(zu S3).x.c5
 obtain⟨r0,r1,r2,r3,r4,r5,f0,f1,f2,f3,f4,f5⟩:=Box.all ((zu S3).v)
 have x2:=(zu S3).x.free 2
 have BW:=zh (zu S3).b
 rcases(zu PC) _ _ (zu HP) with rfl|rfl|rfl|rfl
 ·have IS:=zh (show IsPosted x.b ls (withB x g5 k5 qs).b 0 from⟨qs,0,zu HP,.inl ⟨rfl,rfl,rfl⟩⟩)
  have OY:=zh (ow_withB (zu OX) ((zu O5).rebase (base':=base) (by have:=(zu OX).oa.lt;omega)))
  have F1:=zh (off_withB (c:=k5) (qs:=qs) (zu U0) (Nat.le_refl w.heap.size) (show w.heap.size<g5 by omega))
  have F2:=zh (off_withB (c:=k5) (qs:=qs) (zu U0) (Nat.le_add_right w.heap.size 1) (show w.heap.size+1<g5 by omega))
  go_wp2
  refine bodyPost_ret (v:= .tuple #[.agg #[.slice (some ⟨x.ga,0,none⟩) x.b.ac.length x.ca,.slice (some ⟨x.gi,0,none⟩) x.b.ic.length x.ci,.slice (some ⟨g5,0,none⟩) qs.length k5,.slice (some ⟨x.gl,0,none⟩) x.b.ls.length x.cl,.slice (some ⟨x.gt,0,none⟩) x.b.ts.length x.ct,.int .i64 x.b.lot],.int .i64 0]) (by simp[results,Tryz.results77,go_sem,r0,r1,r2,r3,r4,r5]) rfl ⟨withB x g5 k5 qs,0,zu IS,rfl,?_,?_⟩
  ·exact ow_six (ow_set (zu OY) (zu F1) 2 _) (zu F2) _ _ _ _ _ _
  ·exact Ans.six ((zu BW).setCell (p:=⟨w.heap.size,2,none⟩) (Nat.le_refl _) _) (by omega) _ _ _ _ _ _
 ·have IS:=zh (show IsPosted x.b ls x.b 5 from⟨qs,3,zu HP,.inr (.inl ⟨rfl,rfl,rfl⟩)⟩)
  go_wp2
  refine bodyPost_ret (v:= .tuple #[.agg #[.slice (some ⟨x.ga,0,none⟩) x.b.ac.length x.ca,.slice (some ⟨x.gi,0,none⟩) x.b.ic.length x.ci,.slice (some ⟨x.gb,0,none⟩) x.b.bs.length x.cb,.slice (some ⟨x.gl,0,none⟩) x.b.ls.length x.cl,.slice (some ⟨x.gt,0,none⟩) x.b.ts.length x.ct,.int .i64 x.b.lot],.int .i64 5]) (by simp[results,Tryz.results77,go_sem,r0,r1,r2,r3,r4,r5]) rfl ⟨x,5,zu IS,rfl,?_,?_⟩
  ·exact ow_six (zu OX) (off_up (zu U0) (by omega)) _ _ _ _ _ _
  ·exact Ans.six (zu BW) (by omega) _ _ _ _ _ _
 ·have IS:=zh (show IsPosted x.b ls x.b 8 from⟨qs,4,zu HP,.inr (.inr (.inl ⟨rfl,rfl,rfl⟩))⟩)
  go_wp2
  refine bodyPost_ret (v:= .tuple #[.agg #[.slice (some ⟨x.ga,0,none⟩) x.b.ac.length x.ca,.slice (some ⟨x.gi,0,none⟩) x.b.ic.length x.ci,.slice (some ⟨x.gb,0,none⟩) x.b.bs.length x.cb,.slice (some ⟨x.gl,0,none⟩) x.b.ls.length x.cl,.slice (some ⟨x.gt,0,none⟩) x.b.ts.length x.ct,.int .i64 x.b.lot],.int .i64 8]) (by simp[results,Tryz.results77,go_sem,r0,r1,r2,r3,r4,r5]) rfl ⟨x,8,zu IS,rfl,?_,?_⟩
  ·exact ow_six (zu OX) (off_up (zu U0) (by omega)) _ _ _ _ _ _
  ·exact Ans.six (zu BW) (by omega) _ _ _ _ _ _
 ·have IS:=zh (show IsPosted x.b ls x.b 7 from⟨qs,5,zu HP,.inr (.inr (.inr ⟨rfl,rfl,rfl⟩))⟩)
  go_wp2
  refine bodyPost_ret (v:= .tuple #[.agg #[.slice (some ⟨x.ga,0,none⟩) x.b.ac.length x.ca,.slice (some ⟨x.gi,0,none⟩) x.b.ic.length x.ci,.slice (some ⟨x.gb,0,none⟩) x.b.bs.length x.cb,.slice (some ⟨x.gl,0,none⟩) x.b.ls.length x.cl,.slice (some ⟨x.gt,0,none⟩) x.b.ts.length x.ct,.int .i64 x.b.lot],.int .i64 7]) (by simp[results,Tryz.results77,go_sem,r0,r1,r2,r3,r4,r5]) rfl ⟨x,7,zu IS,rfl,?_,?_⟩
  ·exact ow_six (zu OX) (off_up (zu U0) (by omega)) _ _ _ _ _ _
  ·exact Ans.six (zu BW) (by omega) _ _ _ _ _ _
theorem open_cases(ok okl okn:Bool):(ok=true∧okl=true∧okn=true)∨(SOpen.openC ok okl okn≠0∧¬(ok=true∧okl=true∧okn=true)):=by
 cases ok<;>cases okl<;>cases okn<;>simp[SOpen.openC]
theorem sOpenB(w:World)(base:Nat)(x:Bx)(a i q cost:Int)(O:Ow w base x)(hlot:0≤x.b.lot∧x.b.lot≤1000000000)(s:Small x.b):
  Calls Tryz.prog 79 #[.agg #[.slice (some ⟨x.ga,0,none⟩) x.b.ac.length x.ca,.slice (some ⟨x.gi,0,none⟩) x.b.ic.length x.ci,.slice (some ⟨x.gb,0,none⟩) x.b.bs.length x.cb,.slice (some ⟨x.gl,0,none⟩) x.b.ls.length x.cl,.slice (some ⟨x.gt,0,none⟩) x.b.ts.length x.ct,.int .i64 x.b.lot],.int .i64 a,.int .i64 i,.int .i64 q,.int .i64 cost] w fun e w'=>∃(y:Bx) (c:Int),IsOpen x.b a i q cost y.b c∧e= .returned (.tuple #[.agg #[.slice (some ⟨y.ga,0,none⟩) y.b.ac.length y.ca,.slice (some ⟨y.gi,0,none⟩) y.b.ic.length y.ci,.slice (some ⟨y.gb,0,none⟩) y.b.bs.length y.cb,.slice (some ⟨y.gl,0,none⟩) y.b.ls.length y.cl,.slice (some ⟨y.gt,0,none⟩) y.b.ts.length y.ct,.int .i64 y.b.lot],.int .i64 c])∧Ow w' base y∧Below w.heap.size w w':=by
 have R0:=zh (O.rd s)
 have O0:=zh O
 have U0:=zh (ow_up O)
 have S1:=zh (SV.start w x)
 have nl:=s.2.2.2.1
 obtain⟨l0,l1⟩:=hlot
 clear O s
 by_cases full:x.b.lot=1000000000
 ·have IS:=zh (show IsOpen x.b a i q cost x.b 7 from .inr ⟨fun h=>h.1 full,rfl,rfl⟩)
  have fb:(x.b.lot==1000000000)=true:=by simp[full]
  have OX:=zh ((zu O0).below (zu S1).b (Nat.le_refl _))
  have BW:=zh (zu S1).b
  clear full
  go_enter Tryz.func79,Tryz.ntmps79
  go_wp2
  refine bodyPost_ret (v:= .tuple #[.agg #[.slice (some ⟨x.ga,0,none⟩) x.b.ac.length x.ca,.slice (some ⟨x.gi,0,none⟩) x.b.ic.length x.ci,.slice (some ⟨x.gb,0,none⟩) x.b.bs.length x.cb,.slice (some ⟨x.gl,0,none⟩) x.b.ls.length x.cl,.slice (some ⟨x.gt,0,none⟩) x.b.ts.length x.ct,.int .i64 x.b.lot],.int .i64 7]) (by simp[results,Tryz.results79,go_sem]) rfl ⟨x,7,zu IS,rfl,?_,?_⟩
  ·exact(zu O0).below (((Below.refl w.heap.size w).alloc (Nat.le_refl _) _).alloc (by simp) _) (Nat.le_refl _)
  ·exact((Below.refl w.heap.size w).alloc (Nat.le_refl _) _).alloc (by simp) _
 have fb:(x.b.lot==1000000000)=false:=by simpa using full
 have HF:=zh full
 obtain⟨ok,hok⟩:=says_of (Lots.Right x.b.ls)
 obtain⟨okl,hkl⟩:=says_of (Lots.One (opened x.b a i q cost))
 obtain⟨okn,hkn⟩:=says_of (Lots.Right (Lots.mergeL (x.b.ls.length+1) x.b.ls [opened x.b a i q cost]))
 have HO:=zh hok
 have HL:=zh hkl
 have HN:=zh hkn
 clear full hok hkl hkn
 go_enter Tryz.func79,Tryz.ntmps79
 go_wp2_with fail
 generalize ((w.alloc (.cells #[.slice (some ⟨x.ga,0,none⟩) x.b.ac.length x.ca,.slice (some ⟨x.gi,0,none⟩) x.b.ic.length x.ci,.slice (some ⟨x.gb,0,none⟩) x.b.bs.length x.cb,.slice (some ⟨x.gl,0,none⟩) x.b.ls.length x.cl,.slice (some ⟨x.gt,0,none⟩) x.b.ts.length x.ct,.int .i64 x.b.lot] 44)).alloc (.cells #[.slice none 0 0,.slice none 0 0,.slice none 0 0,.slice none 0 0,.slice none 0 0,.int .i64 0] 44))=w1 at *
 refine(SOpen.sOpen w1 x.gl _ x.cl x.b.ls _ a i (x.b.lot+1) q cost ok okl okn (zh rfl) rfl nl ((zu R0).below (zu S1).b).ll ((zu R0).below (zu S1).b).rl (zu HO) (zu HL) (zu HN)).mono ?_
 rintro e w2 ⟨g2,k2,rfl,o2,bb⟩
 have S2:=zh ((zu S1).step bb)
 have OX:=zh ((zu O0).below (zu S2).b (Nat.le_refl _))
 have BW:=zh (zu S2).b
 have O2:=zh o2
 have g2l:=o2.lt.1
 have z1:=(zu S1).v.lt.2
 have zb:=(zu O0).oa.lt
 clear o2 bb
 have c0:=(zu S2).x.c0
 have c1:=(zu S2).x.c1
 have c2:=(zu S2).x.c2
 have c3:=(zu S2).x.c3
 have c4:=(zu S2).x.c4
 have c5:=(zu S2).x.c5
 obtain⟨r0,r1,r2,r3,r4,r5,f0,f1,f2,f3,f4,f5⟩:=Box.all ((zu S2).v)
 have x3:=(zu S2).x.free 3
 have x5:=(zu S2).x.free 5
 rcases open_cases ok okl okn with⟨rfl,rfl,rfl⟩|⟨hne,hno⟩
 ·obtain⟨R,hR⟩:∃R,Hid (Lots.mergeL (x.b.ls.length+1) x.b.ls [opened x.b a i q cost]=R):=⟨_,rfl⟩
  have O2:=zh (show Tup5.Own5 188 w2 w1.heap.size g2 R.length k2 R from by rw[←zu hR];exact zu O2)
  have IS:=zh (show IsOpen x.b a i q cost (withL x g2 k2 R (x.b.lot+1)).b 0 from .inl ⟨⟨zu HF,(zu HO).yes,(zu HL).yes,(zu HN).yes⟩,by rw[←zu hR],rfl⟩)
  have OY:=zh (ow_withL (lot:=x.b.lot+1) (zu OX) ((zu O2).rebase (base':=base) (by omega)))
  have F1:=zh (off_withL (c:=k2) (qs:=R) (lot:=x.b.lot+1) (zu U0) (Nat.le_refl w.heap.size) (show w.heap.size<g2 by omega))
  have F2:=zh (off_withL (c:=k2) (qs:=R) (lot:=x.b.lot+1) (zu U0) (Nat.le_add_right w.heap.size 1) (show w.heap.size+1<g2 by omega))
  rw[show(SOpen.openA x.b.ls (Lots.mergeL (x.b.ls.length+1) x.b.ls [(a,i,x.b.lot+1,q,cost)]) true true true).length=R.length from by rw[←zu hR];rfl,show SOpen.openC true true true=0 from rfl]
  go_wp2
  refine bodyPost_ret (v:= .tuple #[.agg #[.slice (some ⟨x.ga,0,none⟩) x.b.ac.length x.ca,.slice (some ⟨x.gi,0,none⟩) x.b.ic.length x.ci,.slice (some ⟨x.gb,0,none⟩) x.b.bs.length x.cb,.slice (some ⟨g2,0,none⟩) R.length k2,.slice (some ⟨x.gt,0,none⟩) x.b.ts.length x.ct,.int .i64 (x.b.lot+1)],.int .i64 0]) (by simp[results,Tryz.results79,go_sem,r0,r1,r2,r3,r4,r5]) rfl ⟨withL x g2 k2 R (x.b.lot+1),0,zu IS,rfl,?_,?_⟩
  ·exact ow_six (ow_set (ow_set (zu OY) (zu F1) 3 _) (zu F1) 5 _) (zu F2) _ _ _ _ _ _
  ·exact Ans.six (((zu BW).setCell (p:=⟨w.heap.size,3,none⟩) (Nat.le_refl _) _).setCell (p:=⟨w.heap.size,5,none⟩) (Nat.le_refl _) _) (by omega) _ _ _ _ _ _
 ·have IS:=zh (show IsOpen x.b a i q cost x.b 7 from .inr ⟨fun h=>hno ⟨(zu HO).of h.2.1,(zu HL).of h.2.2.1,(zu HN).of h.2.2.2⟩,rfl,rfl⟩)
  obtain⟨c,hc⟩:∃c,Hid (SOpen.openC ok okl okn=c):=⟨_,rfl⟩
  have cb:(c !=0)=true:=by rw[←zu hc];simpa using hne
  rw[zu hc]
  clear hne hno
  go_wp2
  refine bodyPost_ret (v:= .tuple #[.agg #[.slice (some ⟨x.ga,0,none⟩) x.b.ac.length x.ca,.slice (some ⟨x.gi,0,none⟩) x.b.ic.length x.ci,.slice (some ⟨x.gb,0,none⟩) x.b.bs.length x.cb,.slice (some ⟨x.gl,0,none⟩) x.b.ls.length x.cl,.slice (some ⟨x.gt,0,none⟩) x.b.ts.length x.ct,.int .i64 x.b.lot],.int .i64 7]) (by simp[results,Tryz.results79,go_sem,r0,r1,r2,r3,r4,r5]) rfl ⟨x,7,zu IS,rfl,?_,?_⟩
  ·exact ow_six (zu OX) (off_up (zu U0) (by omega)) _ _ _ _ _ _
  ·exact Ans.six (zu BW) (by omega) _ _ _ _ _ _
end SBk
namespace SIssue
open BMem Bks ILists BHelp Ans SBk
open IBalsFit (one_more)
open Lots (Says says_of NoOk)
open Quieter (Near near_is quiet_near)
open Bals (T3)
open Tup5 (T5)
def ToldI(b:Bk)(fa fb fi fq fk:Int):Prop:=Ok b∧NoOk fa∧NoOk fb∧NoOk fi∧(1≤fq∧fq≤1000000000000000)∧(0≤fk∧fk≤1000000000000000)
theorem posted_small{b b':Bk}{ls:List T3}{c:Int}(h:IsPosted b ls b' c)(s:Small b):Small b':=by
 obtain⟨qs,pc,hp,⟨_,rfl,_⟩|⟨_,rfl,_⟩|⟨_,rfl,_⟩|⟨_,rfl,_⟩⟩:=h
 ·have:=hp.len
  obtain⟨a,b,c,d,e⟩:=s
  exact⟨a,b,by simp;omega,d,e⟩
 all_goals exact s
theorem posted_lot{b b':Bk}{ls:List T3}{c:Int}(h:IsPosted b ls b' c):b'.lot=b.lot∧b'.ls=b.ls∧b'.ac=b.ac∧b'.ic=b.ic:=by
 obtain⟨qs,pc,hp,⟨_,rfl,_⟩|⟨_,rfl,_⟩|⟨_,rfl,_⟩|⟨_,rfl,_⟩⟩:=h
 all_goals exact⟨rfl,rfl,rfl,rfl⟩
theorem row_ne{w:World}{base base':Nat}{e e':TypeId}{size size' g n cap g' n' cap':Nat}{xs xs':List Value}(h:w.ownsRow base e size (.slice (some ⟨g,0,none⟩) n cap) n xs)(k:w.ownsRow base' e' size' (.slice (some ⟨g',0,none⟩) n' cap') n' xs')(ne:e≠e'):g≠g':=by
 rintro rfl
 rcases h.2 with⟨h1,_⟩|⟨g1,c1,cur1,h1,h2,h3,_⟩
 ·simp at h1
 rcases k.2 with⟨k1,_⟩|⟨g2,c2,cur2,k1,k2,k3,_⟩
 ·simp at k1
 obtain⟨rfl,_⟩:g=g1∧cap=c1:=by simpa using h1
 obtain⟨rfl,_⟩:g=g2∧cap'=c2:=by simpa using k1
 rw[h3] at k3
 injection k3 with k3
 injection k3 with _ k3
 exact ne k3
theorem off_box{w:World}{base base' p:Nat}{y:Bx}{v0 v1 v2 v3 v4 v5:Value}(O:Ow w base y)(B:Box w base' p v0 v1 v2 v3 v4 v5):Off y p:=
 ⟨row_ne O.oa B (by decide),row_ne O.oi B (by decide),row_ne O.ob B (by decide),row_ne O.ol B (by decide),row_ne O.ot B (by decide)⟩
theorem SR.grown{w W W':World}{x:Bx}{p:Nat}(H:Rd w x)(h:SR w W x)(k:W.grownBy W' (some p))(hp:w.heap.size+1<p):SR w W' x:=by
 have b:Below w.heap.size w W':=h.b.grown k h.b.size (fun j e=>by injection e;omega)
 have n0:some w.heap.size≠some p:=fun e=>by injection e;omega
 exact⟨H.below b,⟨k.cell h.c.c0 n0,k.cell h.c.c1 n0,k.cell h.c.c2 n0,k.cell h.c.c3 n0,k.cell h.c.c4 n0,k.cell h.c.c5 n0⟩,h.v.kept k (fun e=>by injection e;omega),b⟩
theorem six_alloc{B:Nat}{a w:World}{g:Nat}(h:Below B a w)(hB:B≤w.heap.size)(hg:B≤g)(u0 u1 u2 u3 u4 u5:Value)(o:Obj):Below B a (((((((w.setCell ⟨g,0,none⟩ u0).setCell ⟨g,1,none⟩ u1).setCell ⟨g,2,none⟩ u2).setCell ⟨g,3,none⟩ u3).setCell ⟨g,4,none⟩ u4).setCell ⟨g,5,none⟩ u5).alloc o):=
 (six h hg u0 u1 u2 u3 u4 u5).alloc (by simpa using hB) o
theorem ow_six_alloc{w:World}{base base':Nat}{z:Bx}{g:Nat}(h:Ow w base z)(off:Off z g)(hb:base'≤base)(u0 u1 u2 u3 u4 u5:Value)(o:Obj):Ow (((((((w.setCell ⟨g,0,none⟩ u0).setCell ⟨g,1,none⟩ u1).setCell ⟨g,2,none⟩ u2).setCell ⟨g,3,none⟩ u3).setCell ⟨g,4,none⟩ u4).setCell ⟨g,5,none⟩ u5).alloc o) base' z:=
 (ow_alloc (ow_six h off u0 u1 u2 u3 u4 u5) o).rebase hb
theorem box_six_alloc{w:World}{base g:Nat}{v0 v1 v2 v3 v4 v5:Value}(h:Box w base g v0 v1 v2 v3 v4 v5)(u0 u1 u2 u3 u4 u5:Value)(o:Obj):Box (((((((w.setCell ⟨g,0,none⟩ u0).setCell ⟨g,1,none⟩ u1).setCell ⟨g,2,none⟩ u2).setCell ⟨g,3,none⟩ u3).setCell ⟨g,4,none⟩ u4).setCell ⟨g,5,none⟩ u5).alloc o) base g u0 u1 u2 u3 u4 u5:=World.ownsRow.alloc (box_six h u0 u1 u2 u3 u4 u5).1 o
theorem to_wb{P:Program}{fn:Func}{R:Ending→World→Prop}{ex:Exit}{a:Act}{W:World}(Pr:World→Prop)(h:Pr W)(k:∀W,Pr W→bodyPost P fn R ex a W):bodyPost P fn R ex a W:=k W h
theorem ne_true{a b:Int}(h:a≠b):(a !=b)=true:=by simpa using h
theorem ne_false{a b:Int}(h:a=b):(a !=b)=false:=by simpa using h
theorem eq_true{a b:Int}(h:a=b):(a==b)=true:=by simpa using h
theorem eq_false{a b:Int}(h:¬a=b):(a==b)=false:=by simpa using h
theorem sIssue(w:World)(x:Bx)(fa fb fi fq fk:Int)(hr:Rd w x):
  Calls Tryz.prog 49 #[.agg #[.slice (some ⟨x.ga,0,none⟩) x.b.ac.length x.ca,.slice (some ⟨x.gi,0,none⟩) x.b.ic.length x.ci,.slice (some ⟨x.gb,0,none⟩) x.b.bs.length x.cb,.slice (some ⟨x.gl,0,none⟩) x.b.ls.length x.cl,.slice (some ⟨x.gt,0,none⟩) x.b.ts.length x.ct,.int .i64 x.b.lot],.int .i64 fa,.int .i64 fb,.int .i64 fi,.int .i64 fq,.int .i64 fk] w (AnsB (ToldI x.b fa fb fi fq fk) (IsIssue x.b fa fb fi fq fk) w):=by
 obtain⟨b0,h0⟩:=says_of (Ok x.b)
 obtain⟨b1,h1⟩:=says_of (NoOk fa)
 obtain⟨b2,h2⟩:=says_of (NoOk fb)
 obtain⟨b3,h3⟩:=says_of (NoOk fi)
 obtain⟨b4,h4⟩:=says_of (1≤fq∧fq≤1000000000000000)
 obtain⟨b5,h5⟩:=says_of (0≤fk∧fk≤1000000000000000)
 have H0:=zh h0
 have H1:=zh h1
 have H2:=zh h2
 have H3:=zh h3
 have H4:=zh h4
 have H5:=zh h5
 have S0:=zh (SR.start hr)
 have HR:=zh hr
 clear h0 h1 h2 h3 h4 h5 hr
 go_enter Tryz.func49,Tryz.ntmps49
 go_wp2_with fail
 refine(SBooksOk.sBooksOk _ x b0 (zu S0).r (zu H0)).mono ?_
 rintro e w1 ⟨rfl,bb⟩
 have S1:=zh ((zu S0).step bb)
 have B1:=zh (zu S1).b
 clear bb
 obtain⟨c0,c1,c2,c3,c4,c5⟩:=(zu S1).c
 obtain⟨r0,r1,r2,r3,r4,r5,f0,f1,f2,f3,f4,f5⟩:=Box.all ((zu S1).v)
 cases b0
 ·have N:=zh (show ¬ToldI x.b fa fb fi fq fk from fun hh=>(zu H0).no hh.1)
  go_wp2
  refine bodyPost_ret (v:= .tuple #[.agg #[.slice none 0 0,.slice none 0 0,.slice none 0 0,.slice none 0 0,.slice none 0 0,.int .i64 0],.int .i64 1]) (by simp[results,Tryz.results49,go_sem,r0,r1,r2,r3,r4,r5]) rfl (.inl ⟨zu N,rfl,?_⟩)
  exact six (zu B1) (by omega) _ _ _ _ _ _
 go_wp2_with fail
 refine(SOk5.sNo fa b1 _ (zu H1)).mono ?_
 rintro e v1 ⟨rfl,rfl⟩
 cases b1
 ·have N:=zh (show ¬ToldI x.b fa fb fi fq fk from fun hh=>(zu H1).no hh.2.1)
  go_wp2
  refine bodyPost_ret (v:= .tuple #[.agg #[.slice none 0 0,.slice none 0 0,.slice none 0 0,.slice none 0 0,.slice none 0 0,.int .i64 0],.int .i64 1]) (by simp[results,Tryz.results49,go_sem,r0,r1,r2,r3,r4,r5]) rfl (.inl ⟨zu N,rfl,?_⟩)
  exact six (zu B1) (by omega) _ _ _ _ _ _
 go_wp2_with fail
 refine(SOk5.sNo fb b2 _ (zu H2)).mono ?_
 rintro e v2 ⟨rfl,rfl⟩
 cases b2
 ·have N:=zh (show ¬ToldI x.b fa fb fi fq fk from fun hh=>(zu H2).no hh.2.2.1)
  go_wp2
  refine bodyPost_ret (v:= .tuple #[.agg #[.slice none 0 0,.slice none 0 0,.slice none 0 0,.slice none 0 0,.slice none 0 0,.int .i64 0],.int .i64 1]) (by simp[results,Tryz.results49,go_sem,r0,r1,r2,r3,r4,r5]) rfl (.inl ⟨zu N,rfl,?_⟩)
  exact six (zu B1) (by omega) _ _ _ _ _ _
 go_wp2_with fail
 refine(SOk5.sNo fi b3 _ (zu H3)).mono ?_
 rintro e v3 ⟨rfl,rfl⟩
 cases b3
 ·have N:=zh (show ¬ToldI x.b fa fb fi fq fk from fun hh=>(zu H3).no hh.2.2.2.1)
  go_wp2
  refine bodyPost_ret (v:= .tuple #[.agg #[.slice none 0 0,.slice none 0 0,.slice none 0 0,.slice none 0 0,.slice none 0 0,.int .i64 0],.int .i64 1]) (by simp[results,Tryz.results49,go_sem,r0,r1,r2,r3,r4,r5]) rfl (.inl ⟨zu N,rfl,?_⟩)
  exact six (zu B1) (by omega) _ _ _ _ _ _
 go_wp2_with fail
 refine(SOk5.sSome fq 1 b4 _ (zu H4)).mono ?_
 rintro e v4 ⟨rfl,rfl⟩
 cases b4
 ·have N:=zh (show ¬ToldI x.b fa fb fi fq fk from fun hh=>(zu H4).no hh.2.2.2.2.1)
  go_wp2
  refine bodyPost_ret (v:= .tuple #[.agg #[.slice none 0 0,.slice none 0 0,.slice none 0 0,.slice none 0 0,.slice none 0 0,.int .i64 0],.int .i64 1]) (by simp[results,Tryz.results49,go_sem,r0,r1,r2,r3,r4,r5]) rfl (.inl ⟨zu N,rfl,?_⟩)
  exact six (zu B1) (by omega) _ _ _ _ _ _
 go_wp2_with fail
 refine(SOk5.sSome fk 0 b5 _ (zu H5)).mono ?_
 rintro e v5 ⟨rfl,rfl⟩
 cases b5
 ·have N:=zh (show ¬ToldI x.b fa fb fi fq fk from fun hh=>(zu H5).no hh.2.2.2.2.2)
  go_wp2
  refine bodyPost_ret (v:= .tuple #[.agg #[.slice none 0 0,.slice none 0 0,.slice none 0 0,.slice none 0 0,.slice none 0 0,.int .i64 0],.int .i64 1]) (by simp[results,Tryz.results49,go_sem,r0,r1,r2,r3,r4,r5]) rfl (.inl ⟨zu N,rfl,?_⟩)
  exact six (zu B1) (by omega) _ _ _ _ _ _
 have TT:=zh (show ToldI x.b fa fb fi fq fk from⟨(zu H0).yes,(zu H1).yes,(zu H2).yes,(zu H3).yes,(zu H4).yes,(zu H5).yes⟩)
 have LI:=zh (zu H0).yes.1
 have SM:=zh (ok_small (zu H0).yes)
 obtain⟨K1,hK1⟩:∃K,Hid (kindOf x.b.ac fa=K):=⟨_,rfl⟩
 obtain⟨K2,hK2⟩:∃K,Hid (kindOf x.b.ac fb=K):=⟨_,rfl⟩
 obtain⟨K3,hK3⟩:∃K,Hid (kindOf x.b.ic fi=K):=⟨_,rfl⟩
 have K4:=And.intro c0 c1
 have M1:=trivial
 clear c0 c1 c2 c3 c4 c5 r0 r1 r2 r3 r4 r5 f0 f1 f2 f3 f4 f5
 clear H0 H1 H2 H3 H4 H5 S0
 go_wp2_with fail
 go_region_held3 (fun w'=>w'.cell? ⟨w.heap.size,0,none⟩=some (.slice (some ⟨x.ga,0,none⟩) x.b.ac.length x.ca)∧w'.cell? ⟨w.heap.size,1,none⟩=some (.slice (some ⟨x.gi,0,none⟩) x.b.ic.length x.ci)) (first|exact K4|exact K5|exact K6|exact K7)
  (first|(go_at_call 72;clear M1;refine(SBals.sKindA v5.drew x fa K1 ((zu S1).r.below (Below.refl _ _).drew) (zu LI).1 (zu hK1)).mono ?_;rintro e u1 ⟨rfl,bb⟩;have bW:Below v5.heap.size v5 u1:=ILotsFit.below_of_drew bb;have T1:=zh ((zu S1).step bW);have K5:=And.intro (zu T1).c.c0 (zu T1).c.c1;clear bb bW)|(go_at_call 72;refine(SBals.sKindA u1 x fb K2 (zu T1).r (zu LI).1 (zu hK2)).mono ?_;rintro e u2 ⟨rfl,bb2⟩;have T2:=zh ((zu T1).step bb2);have K6:=And.intro (zu T2).c.c0 (zu T2).c.c1;clear bb2)|(go_at_call 73;refine(SBals.sKindI u2 x fi K3 (zu T2).r (zu LI).2.1 (zu hK3)).mono ?_;rintro e w2 ⟨rfl,bb3⟩;have S2:=zh ((zu T2).step bb3);have K7:=And.intro (zu S2).c.c0 (zu S2).c.c1;clear bb3))
 clear K4 K5 K6 K7 T1 T2
 obtain⟨c0,c1,c2,c3,c4,c5⟩:=(zu S2).c
 obtain⟨r0,r1,r2,r3,r4,r5,f0,f1,f2,f3,f4,f5⟩:=Box.all ((zu S2).v)
 have KIN:=zh (kind_in (zu LI).2.1 fi)
 have zero:((K1==0)=true∨((K1==0)=false∧(K2==0)=true)∨((K1==0)=false∧(K2==0)=false∧(K3==0)=true))∧Hid (kindOf x.b.ac fa=0∨kindOf x.b.ac fb=0∨kindOf x.b.ic fi=0)∨((K1==0)=false∧(K2==0)=false∧(K3==0)=false)∧Hid (¬(kindOf x.b.ac fa=0∨kindOf x.b.ac fb=0∨kindOf x.b.ic fi=0)):=by
  rw[zu hK1,zu hK2,zu hK3]
  by_cases k1:K1=0
  ·exact .inl ⟨.inl (eq_true k1),.inl k1⟩
  by_cases k2:K2=0
  ·exact .inl ⟨.inr (.inl ⟨eq_false k1,eq_true k2⟩),.inr (.inl k2)⟩
  by_cases k3:K3=0
  ·exact .inl ⟨.inr (.inr ⟨eq_false k1,eq_false k2,eq_true k3⟩),.inr (.inr k3)⟩
  ·exact .inr ⟨⟨eq_false k1,eq_false k2,eq_false k3⟩,fun hh=>by omega⟩
 obtain⟨Z,ZZ⟩|⟨⟨n1,n2,n3⟩,NZ⟩:=zero
 ·have I3:=zh (show IsIssue x.b fa fb fi fq fk x.b 3 from .inl ⟨zu ZZ,rfl,rfl⟩)
  clear hK1 hK2 hK3 KIN ZZ
  obtain n1|⟨n1,n2⟩|⟨n1,n2,n3⟩:=Z
  ·have skip:=trivial
   go_wp2_with fail
   refine(SCopy.sCopy _ x (zu S2).r).mono ?_
   rintro e w8 ⟨z,hz,rfl,oz,bb⟩
   have S8:=zh ((zu S2).step bb)
   have OZ:=zh (oz.rebase (zu S2).b.size)
   have LZ:=zh (ow_lo oz)
   have zl:=(zu S2).v.lt.2
   have IZ:=zh (show IsIssue x.b fa fb fi fq fk z.b 3 from by rw[hz];exact(zu I3))
   clear bb oz hz
   clear c0 c1 c2 c3 c4 c5 r0 r1 r2 r3 r4 r5 f0 f1 f2 f3 f4 f5
   obtain⟨c0,c1,c2,c3,c4,c5⟩:=(zu S8).c
   obtain⟨r0,r1,r2,r3,r4,r5,f0,f1,f2,f3,f4,f5⟩:=Box.all ((zu S8).v)
   go_wp2
   refine bodyPost_ret (v:= .tuple #[.agg #[.slice (some ⟨z.ga,0,none⟩) z.b.ac.length z.ca,.slice (some ⟨z.gi,0,none⟩) z.b.ic.length z.ci,.slice (some ⟨z.gb,0,none⟩) z.b.bs.length z.cb,.slice (some ⟨z.gl,0,none⟩) z.b.ls.length z.cl,.slice (some ⟨z.gt,0,none⟩) z.b.ts.length z.ct,.int .i64 z.b.lot],.int .i64 3]) (by simp[results,Tryz.results49,go_sem,r0,r1,r2,r3,r4,r5]) rfl (.inr ⟨zu TT,z,3,zu IZ,rfl,?_,?_⟩)
   ·exact ow_six (zu OZ) (off_lo (zu LZ) zl) _ _ _ _ _ _
   ·exact six (zu S8).b (by omega) _ _ _ _ _ _
  ·have skip:=trivial
   go_wp2_with fail
   refine(SCopy.sCopy _ x (zu S2).r).mono ?_
   rintro e w8 ⟨z,hz,rfl,oz,bb⟩
   have S8:=zh ((zu S2).step bb)
   have OZ:=zh (oz.rebase (zu S2).b.size)
   have LZ:=zh (ow_lo oz)
   have zl:=(zu S2).v.lt.2
   have IZ:=zh (show IsIssue x.b fa fb fi fq fk z.b 3 from by rw[hz];exact(zu I3))
   clear bb oz hz
   clear c0 c1 c2 c3 c4 c5 r0 r1 r2 r3 r4 r5 f0 f1 f2 f3 f4 f5
   obtain⟨c0,c1,c2,c3,c4,c5⟩:=(zu S8).c
   obtain⟨r0,r1,r2,r3,r4,r5,f0,f1,f2,f3,f4,f5⟩:=Box.all ((zu S8).v)
   go_wp2
   refine bodyPost_ret (v:= .tuple #[.agg #[.slice (some ⟨z.ga,0,none⟩) z.b.ac.length z.ca,.slice (some ⟨z.gi,0,none⟩) z.b.ic.length z.ci,.slice (some ⟨z.gb,0,none⟩) z.b.bs.length z.cb,.slice (some ⟨z.gl,0,none⟩) z.b.ls.length z.cl,.slice (some ⟨z.gt,0,none⟩) z.b.ts.length z.ct,.int .i64 z.b.lot],.int .i64 3]) (by simp[results,Tryz.results49,go_sem,r0,r1,r2,r3,r4,r5]) rfl (.inr ⟨zu TT,z,3,zu IZ,rfl,?_,?_⟩)
   ·exact ow_six (zu OZ) (off_lo (zu LZ) zl) _ _ _ _ _ _
   ·exact six (zu S8).b (by omega) _ _ _ _ _ _
  ·have skip:=trivial
   go_wp2_with fail
   refine(SCopy.sCopy _ x (zu S2).r).mono ?_
   rintro e w8 ⟨z,hz,rfl,oz,bb⟩
   have S8:=zh ((zu S2).step bb)
   have OZ:=zh (oz.rebase (zu S2).b.size)
   have LZ:=zh (ow_lo oz)
   have zl:=(zu S2).v.lt.2
   have IZ:=zh (show IsIssue x.b fa fb fi fq fk z.b 3 from by rw[hz];exact(zu I3))
   clear bb oz hz
   clear c0 c1 c2 c3 c4 c5 r0 r1 r2 r3 r4 r5 f0 f1 f2 f3 f4 f5
   obtain⟨c0,c1,c2,c3,c4,c5⟩:=(zu S8).c
   obtain⟨r0,r1,r2,r3,r4,r5,f0,f1,f2,f3,f4,f5⟩:=Box.all ((zu S8).v)
   go_wp2
   refine bodyPost_ret (v:= .tuple #[.agg #[.slice (some ⟨z.ga,0,none⟩) z.b.ac.length z.ca,.slice (some ⟨z.gi,0,none⟩) z.b.ic.length z.ci,.slice (some ⟨z.gb,0,none⟩) z.b.bs.length z.cb,.slice (some ⟨z.gl,0,none⟩) z.b.ls.length z.cl,.slice (some ⟨z.gt,0,none⟩) z.b.ts.length z.ct,.int .i64 z.b.lot],.int .i64 3]) (by simp[results,Tryz.results49,go_sem,r0,r1,r2,r3,r4,r5]) rfl (.inr ⟨zu TT,z,3,zu IZ,rfl,?_,?_⟩)
   ·exact ow_six (zu OZ) (off_lo (zu LZ) zl) _ _ _ _ _ _
   ·exact six (zu S8).b (by omega) _ _ _ _ _ _
 have kinds:(((K1 !=2)=true∨((K1 !=2)=false∧(K2 !=1)=true)∨((K1 !=2)=false∧(K2 !=1)=false∧decide (fk>0)=true∧(K3==1)=true)))∧Hid (kindOf x.b.ac fa≠2∨kindOf x.b.ac fb≠1∨(fk≠0∧kindOf x.b.ic fi=1))∨((K1 !=2)=false∧(K2 !=1)=false∧(decide (fk>0)=false∨(decide (fk>0)=true∧(K3==1)=false)))∧Hid (¬(kindOf x.b.ac fa≠2∨kindOf x.b.ac fb≠1∨(fk≠0∧kindOf x.b.ic fi=1))):=by
  rw[zu hK1,zu hK2,zu hK3]
  have f0:=(zu TT).2.2.2.2.2.1
  by_cases k1:K1=2
  ·by_cases k2:K2=1
   ·by_cases k0:fk>0
    ·by_cases k3:K3=1
     ·exact .inl ⟨.inr (.inr ⟨ne_false k1,ne_false k2,decide_eq_true k0,eq_true k3⟩),.inr (.inr ⟨by omega,k3⟩)⟩
     ·exact .inr ⟨⟨ne_false k1,ne_false k2,.inr ⟨decide_eq_true k0,eq_false k3⟩⟩,fun hh=>by omega⟩
    ·exact .inr ⟨⟨ne_false k1,ne_false k2,.inl (decide_eq_false k0)⟩,fun hh=>by omega⟩
   ·exact .inl ⟨.inr (.inl ⟨ne_false k1,ne_true k2⟩),.inr (.inl k2)⟩
  ·exact .inl ⟨.inl (ne_true k1),.inl k1⟩
 obtain⟨Z,ZZ⟩|⟨Z,NK⟩:=kinds
 ·have I4:=zh (show IsIssue x.b fa fb fi fq fk x.b 4 from .inr (.inl ⟨zu NZ,zu ZZ,rfl,rfl⟩))
  clear hK1 hK2 hK3 KIN ZZ NZ
  obtain m1|⟨m1,m2⟩|⟨m1,m2,m3,m4⟩:=Z
  ·have skip:=trivial
   go_wp2_with fail
   refine(SCopy.sCopy _ x (zu S2).r).mono ?_
   rintro e w8 ⟨z,hz,rfl,oz,bb⟩
   have S8:=zh ((zu S2).step bb)
   have OZ:=zh (oz.rebase (zu S2).b.size)
   have LZ:=zh (ow_lo oz)
   have zl:=(zu S2).v.lt.2
   have IZ:=zh (show IsIssue x.b fa fb fi fq fk z.b 4 from by rw[hz];exact(zu I4))
   clear bb oz hz
   clear c0 c1 c2 c3 c4 c5 r0 r1 r2 r3 r4 r5 f0 f1 f2 f3 f4 f5
   obtain⟨c0,c1,c2,c3,c4,c5⟩:=(zu S8).c
   obtain⟨r0,r1,r2,r3,r4,r5,f0,f1,f2,f3,f4,f5⟩:=Box.all ((zu S8).v)
   go_wp2
   refine bodyPost_ret (v:= .tuple #[.agg #[.slice (some ⟨z.ga,0,none⟩) z.b.ac.length z.ca,.slice (some ⟨z.gi,0,none⟩) z.b.ic.length z.ci,.slice (some ⟨z.gb,0,none⟩) z.b.bs.length z.cb,.slice (some ⟨z.gl,0,none⟩) z.b.ls.length z.cl,.slice (some ⟨z.gt,0,none⟩) z.b.ts.length z.ct,.int .i64 z.b.lot],.int .i64 4]) (by simp[results,Tryz.results49,go_sem,r0,r1,r2,r3,r4,r5]) rfl (.inr ⟨zu TT,z,4,zu IZ,rfl,?_,?_⟩)
   ·exact ow_six (zu OZ) (off_lo (zu LZ) zl) _ _ _ _ _ _
   ·exact six (zu S8).b (by omega) _ _ _ _ _ _
  ·have skip:=trivial
   go_wp2_with fail
   refine(SCopy.sCopy _ x (zu S2).r).mono ?_
   rintro e w8 ⟨z,hz,rfl,oz,bb⟩
   have S8:=zh ((zu S2).step bb)
   have OZ:=zh (oz.rebase (zu S2).b.size)
   have LZ:=zh (ow_lo oz)
   have zl:=(zu S2).v.lt.2
   have IZ:=zh (show IsIssue x.b fa fb fi fq fk z.b 4 from by rw[hz];exact(zu I4))
   clear bb oz hz
   clear c0 c1 c2 c3 c4 c5 r0 r1 r2 r3 r4 r5 f0 f1 f2 f3 f4 f5
   obtain⟨c0,c1,c2,c3,c4,c5⟩:=(zu S8).c
   obtain⟨r0,r1,r2,r3,r4,r5,f0,f1,f2,f3,f4,f5⟩:=Box.all ((zu S8).v)
   go_wp2
   refine bodyPost_ret (v:= .tuple #[.agg #[.slice (some ⟨z.ga,0,none⟩) z.b.ac.length z.ca,.slice (some ⟨z.gi,0,none⟩) z.b.ic.length z.ci,.slice (some ⟨z.gb,0,none⟩) z.b.bs.length z.cb,.slice (some ⟨z.gl,0,none⟩) z.b.ls.length z.cl,.slice (some ⟨z.gt,0,none⟩) z.b.ts.length z.ct,.int .i64 z.b.lot],.int .i64 4]) (by simp[results,Tryz.results49,go_sem,r0,r1,r2,r3,r4,r5]) rfl (.inr ⟨zu TT,z,4,zu IZ,rfl,?_,?_⟩)
   ·exact ow_six (zu OZ) (off_lo (zu LZ) zl) _ _ _ _ _ _
   ·exact six (zu S8).b (by omega) _ _ _ _ _ _
  ·have skip:=trivial
   go_wp2_with fail
   refine(SCopy.sCopy _ x (zu S2).r).mono ?_
   rintro e w8 ⟨z,hz,rfl,oz,bb⟩
   have S8:=zh ((zu S2).step bb)
   have OZ:=zh (oz.rebase (zu S2).b.size)
   have LZ:=zh (ow_lo oz)
   have zl:=(zu S2).v.lt.2
   have IZ:=zh (show IsIssue x.b fa fb fi fq fk z.b 4 from by rw[hz];exact(zu I4))
   clear bb oz hz
   clear c0 c1 c2 c3 c4 c5 r0 r1 r2 r3 r4 r5 f0 f1 f2 f3 f4 f5
   obtain⟨c0,c1,c2,c3,c4,c5⟩:=(zu S8).c
   obtain⟨r0,r1,r2,r3,r4,r5,f0,f1,f2,f3,f4,f5⟩:=Box.all ((zu S8).v)
   go_wp2
   refine bodyPost_ret (v:= .tuple #[.agg #[.slice (some ⟨z.ga,0,none⟩) z.b.ac.length z.ca,.slice (some ⟨z.gi,0,none⟩) z.b.ic.length z.ci,.slice (some ⟨z.gb,0,none⟩) z.b.bs.length z.cb,.slice (some ⟨z.gl,0,none⟩) z.b.ls.length z.cl,.slice (some ⟨z.gt,0,none⟩) z.b.ts.length z.ct,.int .i64 z.b.lot],.int .i64 4]) (by simp[results,Tryz.results49,go_sem,r0,r1,r2,r3,r4,r5]) rfl (.inr ⟨zu TT,z,4,zu IZ,rfl,?_,?_⟩)
   ·exact ow_six (zu OZ) (off_lo (zu LZ) zl) _ _ _ _ _ _
   ·exact six (zu S8).b (by omega) _ _ _ _ _ _
 clear hK1 hK2
 obtain⟨m1,m2,Z⟩:=Z
 have K3IN:=zh (show K3=1∨K3=2 from by
  have a:=zu KIN
  have b:=zu NZ
  have c:=zu hK3
  omega)
 rcases Z with m3|⟨m3,m4⟩
 all_goals
  go_wp2_with fail
  refine(SCopy.sCopy _ x (zu S2).r).mono ?_
  rintro e w3 ⟨z,hz,rfl,oz,bb⟩
  have S3:=zh ((zu S2).step bb)
  have OZ:=zh oz
  have HZ:=zh hz
  clear bb oz hz
  clear c0 c1 c2 c3 c4 c5 r0 r1 r2 r3 r4 r5 f0 f1 f2 f3 f4 f5
  go_wp2_with fail
  refine(Shorts.sPair _ fa fb fi fq (zu TT).2.2.2.2.1.1 (zu TT).2.2.2.2.1.2).mono ?_
  rintro e w4 ⟨gL,rfl,hgL,aL,bb⟩
  have S4:=zh ((zu S3).step bb)
  have OZ4:=zh ((zu OZ).below bb (Nat.le_refl _))
  have AL:=zh aL
  clear bb aL OZ
  go_wp2_with fail
  refine(sPost w4 w2.heap.size z gL 2 (pairL fa fb fi fq) (zu OZ4) (by rw[zu HZ];exact zu LI) (by rw[zu HZ];exact zu SM) (by simp[pairL]) hgL (zu AL) (pair_formed (zu TT).2.1 (zu TT).2.2.1 (zu TT).2.2.2.1 (zu TT).2.2.2.2.1.1 (zu TT).2.2.2.2.1.2) (pair_even _ _ _ _)).mono ?_
  rintro e w5 ⟨y1,d1,hp,rfl,o1,bb⟩
  rw[zu HZ] at hp
  have HP:=zh hp
  have S5:=zh ((zu S4).step bb)
  have S6:=zh ((zu S5).step (one_more w5 (.cells #[.slice (some ⟨y1.ga,0,none⟩) y1.b.ac.length y1.ca,.slice (some ⟨y1.gi,0,none⟩) y1.b.ic.length y1.ci,.slice (some ⟨y1.gb,0,none⟩) y1.b.bs.length y1.cb,.slice (some ⟨y1.gl,0,none⟩) y1.b.ls.length y1.cl,.slice (some ⟨y1.gt,0,none⟩) y1.b.ts.length y1.ct,.int .i64 y1.b.lot] 44)))
  have O15:=zh o1
  have O1:=zh (ow_alloc o1 (.cells #[.slice (some ⟨y1.ga,0,none⟩) y1.b.ac.length y1.ca,.slice (some ⟨y1.gi,0,none⟩) y1.b.ic.length y1.ci,.slice (some ⟨y1.gb,0,none⟩) y1.b.bs.length y1.cb,.slice (some ⟨y1.gl,0,none⟩) y1.b.ls.length y1.cl,.slice (some ⟨y1.gt,0,none⟩) y1.b.ts.length y1.ct,.int .i64 y1.b.lot] 44))
  have V6:=zh (Box.made (w:=w5) (base:=w.heap.size) (g:=w5.heap.size) (.slice (some ⟨y1.ga,0,none⟩) y1.b.ac.length y1.ca) (.slice (some ⟨y1.gi,0,none⟩) y1.b.ic.length y1.ci) (.slice (some ⟨y1.gb,0,none⟩) y1.b.bs.length y1.cb) (.slice (some ⟨y1.gl,0,none⟩) y1.b.ls.length y1.cl) (.slice (some ⟨y1.gt,0,none⟩) y1.b.ts.length y1.ct) (.int .i64 y1.b.lot) (zu S5).b.size rfl)
  have l5:=(zu S5).v.lt.2
  clear bb hp o1 AL hgL OZ4 HZ
  by_cases z1:d1=0
  ·subst z1
   by_cases k3:K3=2
   ·have k3b:(K3==2)=true:=eq_true k3
    go_wp2_with fail
    generalize w5.alloc (.cells #[.slice (some ⟨y1.ga,0,none⟩) y1.b.ac.length y1.ca,.slice (some ⟨y1.gi,0,none⟩) y1.b.ic.length y1.ci,.slice (some ⟨y1.gb,0,none⟩) y1.b.bs.length y1.cb,.slice (some ⟨y1.gl,0,none⟩) y1.b.ls.length y1.cl,.slice (some ⟨y1.gt,0,none⟩) y1.b.ts.length y1.ct,.int .i64 y1.b.lot] 44)=w6 at *
    refine(sOpenB w6 w2.heap.size y1 fb fi fq fk (zu O1) (by rw[(posted_lot (zu HP)).1];exact(zu LI).2.2.2.2.2) (posted_small (zu HP) (zu SM))).mono ?_
    rintro e w7 ⟨y2,d2,ho,rfl,o2,bb⟩
    have S7:=zh ((zu S6).step bb)
    have V7:=zh ((zu V6).below bb (zu V6).lt.2)
    have O2:=zh o2
    have HO:=zh ho
    have KI:=zh (show kindOf x.b.ic fi≠1 from by have:=zu hK3;omega)
    clear bb o2 ho
    obtain⟨a0,a1,a2,a3,a4,a5,g0,g1,g2,g3,g4,g5⟩:=Box.all (zu V7)
    obtain⟨c0,c1,c2,c3,c4,c5⟩:=(zu S7).c
    obtain⟨r0,r1,r2,r3,r4,r5,f0,f1,f2,f3,f4,f5⟩:=Box.all ((zu S7).v)
    have l6:w.heap.size+1≠w5.heap.size:=by omega
    have l7:w.heap.size≠w5.heap.size:=by omega
    have F1:=zh (off_box (zu O2) (zu S7).v)
    have F2:=zh (off_box (zu O2) (zu V7))
    by_cases z2:d2=0
    ·subst z2
     have IZ:=zh (show IsIssue x.b fa fb fi fq fk y2.b 0 from .inr (.inr ⟨zu NZ,zu NK,y1.b,0,zu HP,.inr (.inr ⟨rfl,zu KI,y2.b,0,zu HO,.inr ⟨rfl,rfl,rfl⟩⟩)⟩))
     go_wp2
     refine to_wb (fun W=>Box W w.heap.size (w.heap.size+1) (.slice (some ⟨y2.ga,0,none⟩) y2.b.ac.length y2.ca) (.slice (some ⟨y2.gi,0,none⟩) y2.b.ic.length y2.ci) (.slice (some ⟨y2.gb,0,none⟩) y2.b.bs.length y2.cb) (.slice (some ⟨y2.gl,0,none⟩) y2.b.ls.length y2.cl) (.slice (some ⟨y2.gt,0,none⟩) y2.b.ts.length y2.ct) (.int .i64 y2.b.lot)∧Below w.heap.size w W∧Ow W w.heap.size y2) ?_ ?_
     ·exact⟨(box_six ((zu S7).v.kept (box_six (zu V7) _ _ _ _ _ _).2 (fun e=>by injection e;omega)) _ _ _ _ _ _).1,six (six (zu S7).b (by omega) _ _ _ _ _ _) (by omega) _ _ _ _ _ _,(ow_six (ow_six (zu O2) (zu F2) _ _ _ _ _ _) (zu F1) _ _ _ _ _ _).rebase (zu S2).b.size⟩
     rintro W ⟨X,B,OW⟩
     have p0:=X.c0
     have p1:=X.c1
     have p2:=X.c2
     have p3:=X.c3
     have p4:=X.c4
     have p5:=X.c5
     exact bodyPost_ret (v:= .tuple #[.agg #[.slice (some ⟨y2.ga,0,none⟩) y2.b.ac.length y2.ca,.slice (some ⟨y2.gi,0,none⟩) y2.b.ic.length y2.ci,.slice (some ⟨y2.gb,0,none⟩) y2.b.bs.length y2.cb,.slice (some ⟨y2.gl,0,none⟩) y2.b.ls.length y2.cl,.slice (some ⟨y2.gt,0,none⟩) y2.b.ts.length y2.ct,.int .i64 y2.b.lot],.int .i64 0]) (by simp[results,Tryz.results49,go_sem,p0,p1,p2,p3,p4,p5]) rfl (.inr ⟨zu TT,y2,0,zu IZ,rfl,OW,B⟩)
    ·have z2c:(d2 !=0)=true:=ne_true z2
     have IZ2:=zh (show IsIssue x.b fa fb fi fq fk x.b d2 from .inr (.inr ⟨zu NZ,zu NK,y1.b,0,zu HP,.inr (.inr ⟨rfl,zu KI,y2.b,d2,zu HO,.inl ⟨z2,rfl,rfl⟩⟩)⟩))
     clear z2
     have T8:=zh (SR.grown (zu HR) (zu S7) (box_six (zu V7) (.slice (some ⟨y2.ga,0,none⟩) y2.b.ac.length y2.ca) (.slice (some ⟨y2.gi,0,none⟩) y2.b.ic.length y2.ci) (.slice (some ⟨y2.gb,0,none⟩) y2.b.bs.length y2.cb) (.slice (some ⟨y2.gl,0,none⟩) y2.b.ls.length y2.cl) (.slice (some ⟨y2.gt,0,none⟩) y2.b.ts.length y2.ct) (.int .i64 y2.b.lot)).2 (by omega))
     go_wp2_with fail
     refine(SCopy.sCopy _ x (zu T8).r).mono ?_
     rintro e w8 ⟨z,hz,rfl,oz,bb⟩
     have S8:=zh ((zu T8).step bb)
     have OZ:=zh (oz.rebase (zu T8).b.size)
     have LZ:=zh (ow_lo oz)
     have zl:=(zu T8).v.lt.2
     have IZ:=zh (show IsIssue x.b fa fb fi fq fk z.b d2 from by rw[hz];exact(zu IZ2))
     clear bb oz hz
     clear c0 c1 c2 c3 c4 c5 r0 r1 r2 r3 r4 r5 f0 f1 f2 f3 f4 f5
     obtain⟨c0,c1,c2,c3,c4,c5⟩:=(zu S8).c
     obtain⟨r0,r1,r2,r3,r4,r5,f0,f1,f2,f3,f4,f5⟩:=Box.all ((zu S8).v)
     go_wp2
     refine bodyPost_ret (v:= .tuple #[.agg #[.slice (some ⟨z.ga,0,none⟩) z.b.ac.length z.ca,.slice (some ⟨z.gi,0,none⟩) z.b.ic.length z.ci,.slice (some ⟨z.gb,0,none⟩) z.b.bs.length z.cb,.slice (some ⟨z.gl,0,none⟩) z.b.ls.length z.cl,.slice (some ⟨z.gt,0,none⟩) z.b.ts.length z.ct,.int .i64 z.b.lot],.int .i64 d2]) (by simp[results,Tryz.results49,go_sem,r0,r1,r2,r3,r4,r5]) rfl (.inr ⟨zu TT,z,d2,zu IZ,rfl,?_,?_⟩)
     ·exact ow_six (zu OZ) (off_lo (zu LZ) zl) _ _ _ _ _ _
     ·exact six (zu S8).b (by omega) _ _ _ _ _ _
   ·have k3b:(K3==2)=false:=eq_false k3
    have KI:=zh (show kindOf x.b.ic fi=1 from by have:=zu hK3;have:=zu K3IN;omega)
    have IZ:=zh (show IsIssue x.b fa fb fi fq fk y1.b 0 from .inr (.inr ⟨zu NZ,zu NK,y1.b,0,zu HP,.inr (.inl ⟨rfl,zu KI,rfl,rfl⟩)⟩))
    have l6:w.heap.size+1≠w5.heap.size:=by omega
    have F1:=zh (off_box (zu O15) (zu S5).v)
    obtain⟨c0,c1,c2,c3,c4,c5⟩:=(zu S5).c
    obtain⟨r0,r1,r2,r3,r4,r5,f0,f1,f2,f3,f4,f5⟩:=Box.all ((zu S5).v)
    go_wp2
    refine to_wb (fun W=>Box W w.heap.size (w.heap.size+1) (.slice (some ⟨y1.ga,0,none⟩) y1.b.ac.length y1.ca) (.slice (some ⟨y1.gi,0,none⟩) y1.b.ic.length y1.ci) (.slice (some ⟨y1.gb,0,none⟩) y1.b.bs.length y1.cb) (.slice (some ⟨y1.gl,0,none⟩) y1.b.ls.length y1.cl) (.slice (some ⟨y1.gt,0,none⟩) y1.b.ts.length y1.ct) (.int .i64 y1.b.lot)∧Below w.heap.size w W∧Ow W w.heap.size y1) ?_ ?_
    ·exact⟨box_six_alloc (zu S5).v _ _ _ _ _ _ _,six_alloc (zu S5).b (zu S5).b.size (by omega) _ _ _ _ _ _ _,ow_six_alloc (zu O15) (zu F1) (zu S2).b.size _ _ _ _ _ _ _⟩
    rintro W ⟨X,B,OW⟩
    have p0:=X.c0
    have p1:=X.c1
    have p2:=X.c2
    have p3:=X.c3
    have p4:=X.c4
    have p5:=X.c5
    exact bodyPost_ret (v:= .tuple #[.agg #[.slice (some ⟨y1.ga,0,none⟩) y1.b.ac.length y1.ca,.slice (some ⟨y1.gi,0,none⟩) y1.b.ic.length y1.ci,.slice (some ⟨y1.gb,0,none⟩) y1.b.bs.length y1.cb,.slice (some ⟨y1.gl,0,none⟩) y1.b.ls.length y1.cl,.slice (some ⟨y1.gt,0,none⟩) y1.b.ts.length y1.ct,.int .i64 y1.b.lot],.int .i64 0]) (by simp[results,Tryz.results49,go_sem,p0,p1,p2,p3,p4,p5]) rfl (.inr ⟨zu TT,y1,0,zu IZ,rfl,OW,B⟩)
  ·have z1b:(d1==0)=false:=eq_false z1
   have z1c:(d1 !=0)=true:=ne_true z1
   have IZ1:=zh (show IsIssue x.b fa fb fi fq fk x.b d1 from .inr (.inr ⟨zu NZ,zu NK,y1.b,d1,zu HP,.inl ⟨z1,rfl,rfl⟩⟩))
   clear z1
   obtain⟨c0,c1,c2,c3,c4,c5⟩:=(zu S6).c
   obtain⟨r0,r1,r2,r3,r4,r5,f0,f1,f2,f3,f4,f5⟩:=Box.all ((zu S6).v)
   go_wp2_with fail
   refine(SCopy.sCopy _ x (zu S6).r).mono ?_
   rintro e w8 ⟨z,hz,rfl,oz,bb⟩
   have S8:=zh ((zu S6).step bb)
   have OZ:=zh (oz.rebase (zu S6).b.size)
   have LZ:=zh (ow_lo oz)
   have zl:=(zu S6).v.lt.2
   have IZ:=zh (show IsIssue x.b fa fb fi fq fk z.b d1 from by rw[hz];exact(zu IZ1))
   clear bb oz hz
   clear c0 c1 c2 c3 c4 c5 r0 r1 r2 r3 r4 r5 f0 f1 f2 f3 f4 f5
   obtain⟨c0,c1,c2,c3,c4,c5⟩:=(zu S8).c
   obtain⟨r0,r1,r2,r3,r4,r5,f0,f1,f2,f3,f4,f5⟩:=Box.all ((zu S8).v)
   go_wp2
   refine bodyPost_ret (v:= .tuple #[.agg #[.slice (some ⟨z.ga,0,none⟩) z.b.ac.length z.ca,.slice (some ⟨z.gi,0,none⟩) z.b.ic.length z.ci,.slice (some ⟨z.gb,0,none⟩) z.b.bs.length z.cb,.slice (some ⟨z.gl,0,none⟩) z.b.ls.length z.cl,.slice (some ⟨z.gt,0,none⟩) z.b.ts.length z.ct,.int .i64 z.b.lot],.int .i64 d1]) (by simp[results,Tryz.results49,go_sem,r0,r1,r2,r3,r4,r5]) rfl (.inr ⟨zu TT,z,d1,zu IZ,rfl,?_,?_⟩)
   ·exact ow_six (zu OZ) (off_lo (zu LZ) zl) _ _ _ _ _ _
   ·exact six (zu S8).b (by omega) _ _ _ _ _ _
end SIssue
namespace TBox
open BMem Bks ILists BHelp Ans Trd
open Tup8 (T8 el8 Own8)
open SIssue (row_ne)
def Box8(w:World)(base g:Nat)(p:T8):Prop:=w.ownsRow base 82 8 (.slice (some ⟨g,0,none⟩) 1 1) 1 [.int .i64 p.1,.int .i64 p.2.1,.int .i64 p.2.2.1,.int .i64 p.2.2.2.1,.int .i64 p.2.2.2.2.1,.int .i64 p.2.2.2.2.2.1,.int .i64 p.2.2.2.2.2.2.1,.int .i64 p.2.2.2.2.2.2.2]
theorem Box8.made{w:World}{base g:Nat}(p:T8)(hb:base≤w.heap.size)(hg:g=w.heap.size):Box8 (w.alloc (.cells #[.int .i64 p.1,.int .i64 p.2.1,.int .i64 p.2.2.1,.int .i64 p.2.2.2.1,.int .i64 p.2.2.2.2.1,.int .i64 p.2.2.2.2.2.1,.int .i64 p.2.2.2.2.2.2.1,.int .i64 p.2.2.2.2.2.2.2] 82)) base g p:=by
 subst hg
 exact World.ownsRow_lit w #[.int .i64 p.1,.int .i64 p.2.1,.int .i64 p.2.2.1,.int .i64 p.2.2.2.1,.int .i64 p.2.2.2.2.1,.int .i64 p.2.2.2.2.2.1,.int .i64 p.2.2.2.2.2.2.1,.int .i64 p.2.2.2.2.2.2.2] 1 hb (by decide) rfl
section
variable {w w':World} {base g:Nat} {p:T8}
theorem Box8.lt(h:Box8 w base g p):base≤g∧g<w.heap.size:=World.ownsRow.lt h g rfl
theorem Box8.free(h:Box8 w base g p)(i:Nat):w.frozen? ⟨g,i,none⟩=false:=World.ownsRow.frozenAt h i
theorem Box8.c0(h:Box8 w base g p):w.cell? ⟨g,0,none⟩=some (.int .i64 p.1):=(World.ownsRow.cellAt h 0 (by omega)).trans rfl
theorem Box8.c1(h:Box8 w base g p):w.cell? ⟨g,1,none⟩=some (.int .i64 p.2.1):=(World.ownsRow.cellAt h 1 (by omega)).trans rfl
theorem Box8.c2(h:Box8 w base g p):w.cell? ⟨g,2,none⟩=some (.int .i64 p.2.2.1):=(World.ownsRow.cellAt h 2 (by omega)).trans rfl
theorem Box8.c3(h:Box8 w base g p):w.cell? ⟨g,3,none⟩=some (.int .i64 p.2.2.2.1):=(World.ownsRow.cellAt h 3 (by omega)).trans rfl
theorem Box8.c4(h:Box8 w base g p):w.cell? ⟨g,4,none⟩=some (.int .i64 p.2.2.2.2.1):=(World.ownsRow.cellAt h 4 (by omega)).trans rfl
theorem Box8.c5(h:Box8 w base g p):w.cell? ⟨g,5,none⟩=some (.int .i64 p.2.2.2.2.2.1):=(World.ownsRow.cellAt h 5 (by omega)).trans rfl
theorem Box8.c6(h:Box8 w base g p):w.cell? ⟨g,6,none⟩=some (.int .i64 p.2.2.2.2.2.2.1):=(World.ownsRow.cellAt h 6 (by omega)).trans rfl
theorem Box8.c7(h:Box8 w base g p):w.cell? ⟨g,7,none⟩=some (.int .i64 p.2.2.2.2.2.2.2):=(World.ownsRow.cellAt h 7 (by omega)).trans rfl
theorem Box8.below{B:Nat}(h:Box8 w base g p)(k:Below B w w')(hg:g<B):Box8 w' base g p:=by
 refine⟨h.1,?_⟩
 rcases h.2 with⟨h1,_⟩|⟨g',c,cur,h1,h2,h3,h4⟩
 ·simp at h1
 ·obtain⟨e,_⟩:g=g'∧1=c:=by simpa using h1
  subst e
  exact Or.inr ⟨g,c,cur,h1,h2,by rw[k.block g hg];exact h3,h4⟩
theorem Box8.kept{row:Option Nat}(h:Box8 w base g p)(k:w.grownBy w' row)(hne:some g≠row):Box8 w' base g p:=World.ownsRow.kept h k (Or.inr hne)
theorem Box8.alloc(h:Box8 w base g p)(o:Obj):Box8 (w.alloc o) base g p:=World.ownsRow.alloc h o
end
theorem Box8.all{w:World}{base g:Nat}{p:T8}(h:Box8 w base g p):w.cell? ⟨g,0,none⟩=some (.int .i64 p.1)∧w.cell? ⟨g,1,none⟩=some (.int .i64 p.2.1)∧w.cell? ⟨g,2,none⟩=some (.int .i64 p.2.2.1)∧w.cell? ⟨g,3,none⟩=some (.int .i64 p.2.2.2.1)∧w.cell? ⟨g,4,none⟩=some (.int .i64 p.2.2.2.2.1)∧w.cell? ⟨g,5,none⟩=some (.int .i64 p.2.2.2.2.2.1)∧w.cell? ⟨g,6,none⟩=some (.int .i64 p.2.2.2.2.2.2.1)∧w.cell? ⟨g,7,none⟩=some (.int .i64 p.2.2.2.2.2.2.2)∧w.frozen? ⟨g,0,none⟩=false∧w.frozen? ⟨g,1,none⟩=false∧w.frozen? ⟨g,2,none⟩=false∧w.frozen? ⟨g,3,none⟩=false∧w.frozen? ⟨g,4,none⟩=false∧w.frozen? ⟨g,5,none⟩=false∧w.frozen? ⟨g,6,none⟩=false∧w.frozen? ⟨g,7,none⟩=false:=⟨h.c0,h.c1,h.c2,h.c3,h.c4,h.c5,h.c6,h.c7,h.free 0,h.free 1,h.free 2,h.free 3,h.free 4,h.free 5,h.free 6,h.free 7⟩
abbrev withS(x:Bx)(k:Nat)(s:Int):Bx:={x with b:={x.b with ts:=setState x.b.ts k s}}
theorem ow_state{w:World}{base:Nat}{x:Bx}(h:Ow w base x)(k:Nat)(s:Int):Ow (w.setCell ⟨x.gt,k*8+7,none⟩ (.int .i64 s)) base (withS x k s):=by
 have a:=row_ne h.oa h.ot (by decide)
 have b:=row_ne h.oi h.ot (by decide)
 have c:=row_ne h.ob h.ot (by decide)
 have d:=row_ne h.ol h.ot (by decide)
 refine⟨row_set h.oa a _ _,row_set h.oi b _ _,row_set h.ob c _ _,row_set h.ol d _ _,?_⟩
 have:=(h.ot.set7 k s).1
 show Own8 82 _ base x.gt (setState x.b.ts k s).length x.ct (setState x.b.ts k s)
 rw[set_len]
 exact this
theorem state_grown{w:World}{base:Nat}{x:Bx}(h:Ow w base x)(k:Nat)(s:Int):w.grownBy (w.setCell ⟨x.gt,k*8+7,none⟩ (.int .i64 s)) (some x.gt):=(h.ot.set7 k s).2
end TBox
namespace STrade
open BMem Bks ILists BHelp Ans Trd TBox
open IBalsFit (one_more)
open Lots (Says says_of NoOk)
open Tup8 (T8 el8 Own8)
open SIssue (to_wb off_box eq_false eq_true ne_false ne_true)
def ToldN(b:Bk)(no fb fs fp fq fc fr:Int):Prop:=Ok b∧NoOk no∧NoOk fb∧NoOk fs∧NoOk fp∧(1≤fq∧fq≤1000000000000000)∧NoOk fc∧(0≤fr∧fr≤1000000000000000)
def Ins(t:T8)(l:List T8)(put:Bool)(qs:List T8):Prop:=(put=false∧qs=l∧∀q∈l,¬t.1<q.1)∨(put=true∧qs=insT t l∧∃q∈l,t.1<q.1)
theorem Ins.here{t q:T8}{l qs:List T8}(h:Ins t l false qs)(g:t.1<q.1):Ins t (l++[q]) true (qs++[t]++[q]):=by
 rcases h with⟨_,rfl,h⟩|⟨h,_⟩
 ·exact .inr ⟨rfl,(ins_here t q qs h g).symm,q,by simp,g⟩
 ·cases h
theorem Ins.past{t q:T8}{l qs:List T8}(h:Ins t l false qs)(g:¬t.1<q.1):Ins t (l++[q]) false (qs++[q]):=by
 rcases h with⟨_,rfl,h⟩|⟨h,_⟩
 ·refine .inl ⟨rfl,rfl,fun p hp=>?_⟩
  rcases List.mem_append.1 hp with hp|hp
  ·exact h p hp
  ·rw[List.mem_singleton.1 hp];exact g
 ·cases h
theorem Ins.more{t q:T8}{l qs:List T8}(h:Ins t l true qs):Ins t (l++[q]) true (qs++[q]):=by
 rcases h with⟨h,_⟩|⟨_,rfl,p,hp,g⟩
 ·cases h
 ·exact .inr ⟨rfl,(ins_some t l [q] ⟨p,hp,g⟩).symm,p,by simp[hp],g⟩
theorem Ins.last{t:T8}{l qs:List T8}(h:Ins t l false qs):qs++[t]=insT t l:=by
 rcases h with⟨_,rfl,h⟩|⟨h,_⟩
 ·exact(ins_none t qs h).symm
 ·cases h
theorem Ins.len{t:T8}{l qs:List T8}(h:Ins t l false qs):qs.length=l.length:=by
 rcases h with⟨_,rfl,h⟩|⟨h,_⟩
 ·rfl
 ·cases h
theorem Ins.all{t:T8}{l qs:List T8}(h:Ins t l true qs):qs=insT t l:=by
 rcases h with⟨h,_⟩|⟨_,rfl,_⟩
 ·cases h
 ·rfl
theorem ow_below_up{w w':World}{base B:Nat}{x:Bx}(h:Ow w base x)(k:Below B w w')(u:Up x B):Ow w' base x:=⟨h.oa.below k u.1,h.oi.below k u.2.1,h.ob.below k u.2.2.1,h.ol.below k u.2.2.2.1,h.ot.below k u.2.2.2.2⟩
theorem up_mono{x:Bx}{N M:Nat}(h:Up x N)(k:N≤M):Up x M:=by
 unfold Up at *
 omega
abbrev withT(x:Bx)(g c:Nat)(qs:List T8):Bx:={x with gt:=g,ct:=c,b:={x.b with ts:=qs}}
theorem ow_withT{w:World}{base g c:Nat}{x:Bx}{qs:List T8}(h:Ow w base x)(o:Own8 82 w base g qs.length c qs):Ow w base (withT x g c qs):=⟨h.oa,h.oi,h.ob,h.ol,o⟩
theorem sTrade(w:World)(x:Bx)(no fb fs fp fq fc fr:Int)(hr:Rd w x):
  Calls Tryz.prog 51 #[.agg #[.slice (some ⟨x.ga,0,none⟩) x.b.ac.length x.ca,.slice (some ⟨x.gi,0,none⟩) x.b.ic.length x.ci,.slice (some ⟨x.gb,0,none⟩) x.b.bs.length x.cb,.slice (some ⟨x.gl,0,none⟩) x.b.ls.length x.cl,.slice (some ⟨x.gt,0,none⟩) x.b.ts.length x.ct,.int .i64 x.b.lot],.int .i64 no,.int .i64 fb,.int .i64 fs,.int .i64 fp,.int .i64 fq,.int .i64 fc,.int .i64 fr] w (AnsB (ToldN x.b no fb fs fp fq fc fr) (IsTrade x.b no fb fs fp fq fc fr) w):=by
 obtain⟨b0,h0⟩:=says_of (Ok x.b)
 obtain⟨b1,h1⟩:=says_of (NoOk no)
 obtain⟨b2,h2⟩:=says_of (NoOk fb)
 obtain⟨b3,h3⟩:=says_of (NoOk fs)
 obtain⟨b4,h4⟩:=says_of (NoOk fp)
 obtain⟨b5,h5⟩:=says_of (1≤fq∧fq≤1000000000000000)
 obtain⟨b6,h6⟩:=says_of (NoOk fc)
 obtain⟨b7,h7⟩:=says_of (0≤fr∧fr≤1000000000000000)
 have H0:=zh h0
 have H1:=zh h1
 have H2:=zh h2
 have H3:=zh h3
 have H4:=zh h4
 have H5:=zh h5
 have H6:=zh h6
 have H7:=zh h7
 have S0:=zh (SR.start hr)
 have HR:=zh hr
 clear h0 h1 h2 h3 h4 h5 h6 h7 hr
 go_enter Tryz.func51,Tryz.ntmps51
 go_wp2_with fail
 refine(SBooksOk.sBooksOk _ x b0 (zu S0).r (zu H0)).mono ?_
 rintro e w1 ⟨rfl,bb⟩
 have S1:=zh ((zu S0).step bb)
 have B1:=zh (zu S1).b
 clear bb
 obtain⟨c0,c1,c2,c3,c4,c5⟩:=(zu S1).c
 obtain⟨r0,r1,r2,r3,r4,r5,f0,f1,f2,f3,f4,f5⟩:=Box.all ((zu S1).v)
 cases b0
 ·have N:=zh (show ¬ToldN x.b no fb fs fp fq fc fr from fun hh=>(zu H0).no hh.1)
  go_wp2
  refine bodyPost_ret (v:= .tuple #[.agg #[.slice none 0 0,.slice none 0 0,.slice none 0 0,.slice none 0 0,.slice none 0 0,.int .i64 0],.int .i64 1]) (by simp[results,Tryz.results51,go_sem,r0,r1,r2,r3,r4,r5]) rfl (.inl ⟨zu N,rfl,?_⟩)
  exact six (zu B1) (by omega) _ _ _ _ _ _
 go_wp2_with fail
 refine(SOk5.sNo no b1 _ (zu H1)).mono ?_
 rintro e v1 ⟨rfl,rfl⟩
 cases b1
 ·have N:=zh (show ¬ToldN x.b no fb fs fp fq fc fr from fun hh=>(zu H1).no hh.2.1)
  go_wp2
  refine bodyPost_ret (v:= .tuple #[.agg #[.slice none 0 0,.slice none 0 0,.slice none 0 0,.slice none 0 0,.slice none 0 0,.int .i64 0],.int .i64 1]) (by simp[results,Tryz.results51,go_sem,r0,r1,r2,r3,r4,r5]) rfl (.inl ⟨zu N,rfl,?_⟩)
  exact six (zu B1) (by omega) _ _ _ _ _ _
 go_wp2_with fail
 refine(SOk5.sNo fb b2 _ (zu H2)).mono ?_
 rintro e v2 ⟨rfl,rfl⟩
 cases b2
 ·have N:=zh (show ¬ToldN x.b no fb fs fp fq fc fr from fun hh=>(zu H2).no hh.2.2.1)
  go_wp2
  refine bodyPost_ret (v:= .tuple #[.agg #[.slice none 0 0,.slice none 0 0,.slice none 0 0,.slice none 0 0,.slice none 0 0,.int .i64 0],.int .i64 1]) (by simp[results,Tryz.results51,go_sem,r0,r1,r2,r3,r4,r5]) rfl (.inl ⟨zu N,rfl,?_⟩)
  exact six (zu B1) (by omega) _ _ _ _ _ _
 go_wp2_with fail
 refine(SOk5.sNo fs b3 _ (zu H3)).mono ?_
 rintro e v3 ⟨rfl,rfl⟩
 cases b3
 ·have N:=zh (show ¬ToldN x.b no fb fs fp fq fc fr from fun hh=>(zu H3).no hh.2.2.2.1)
  go_wp2
  refine bodyPost_ret (v:= .tuple #[.agg #[.slice none 0 0,.slice none 0 0,.slice none 0 0,.slice none 0 0,.slice none 0 0,.int .i64 0],.int .i64 1]) (by simp[results,Tryz.results51,go_sem,r0,r1,r2,r3,r4,r5]) rfl (.inl ⟨zu N,rfl,?_⟩)
  exact six (zu B1) (by omega) _ _ _ _ _ _
 go_wp2_with fail
 refine(SOk5.sNo fp b4 _ (zu H4)).mono ?_
 rintro e v4 ⟨rfl,rfl⟩
 cases b4
 ·have N:=zh (show ¬ToldN x.b no fb fs fp fq fc fr from fun hh=>(zu H4).no hh.2.2.2.2.1)
  go_wp2
  refine bodyPost_ret (v:= .tuple #[.agg #[.slice none 0 0,.slice none 0 0,.slice none 0 0,.slice none 0 0,.slice none 0 0,.int .i64 0],.int .i64 1]) (by simp[results,Tryz.results51,go_sem,r0,r1,r2,r3,r4,r5]) rfl (.inl ⟨zu N,rfl,?_⟩)
  exact six (zu B1) (by omega) _ _ _ _ _ _
 go_wp2_with fail
 refine(SOk5.sSome fq 1 b5 _ (zu H5)).mono ?_
 rintro e v5 ⟨rfl,rfl⟩
 cases b5
 ·have N:=zh (show ¬ToldN x.b no fb fs fp fq fc fr from fun hh=>(zu H5).no hh.2.2.2.2.2.1)
  go_wp2
  refine bodyPost_ret (v:= .tuple #[.agg #[.slice none 0 0,.slice none 0 0,.slice none 0 0,.slice none 0 0,.slice none 0 0,.int .i64 0],.int .i64 1]) (by simp[results,Tryz.results51,go_sem,r0,r1,r2,r3,r4,r5]) rfl (.inl ⟨zu N,rfl,?_⟩)
  exact six (zu B1) (by omega) _ _ _ _ _ _
 go_wp2_with fail
 refine(SOk5.sNo fc b6 _ (zu H6)).mono ?_
 rintro e v6 ⟨rfl,rfl⟩
 cases b6
 ·have N:=zh (show ¬ToldN x.b no fb fs fp fq fc fr from fun hh=>(zu H6).no hh.2.2.2.2.2.2.1)
  go_wp2
  refine bodyPost_ret (v:= .tuple #[.agg #[.slice none 0 0,.slice none 0 0,.slice none 0 0,.slice none 0 0,.slice none 0 0,.int .i64 0],.int .i64 1]) (by simp[results,Tryz.results51,go_sem,r0,r1,r2,r3,r4,r5]) rfl (.inl ⟨zu N,rfl,?_⟩)
  exact six (zu B1) (by omega) _ _ _ _ _ _
 go_wp2_with fail
 refine(SOk5.sSome fr 0 b7 _ (zu H7)).mono ?_
 rintro e v7 ⟨rfl,rfl⟩
 cases b7
 ·have N:=zh (show ¬ToldN x.b no fb fs fp fq fc fr from fun hh=>(zu H7).no hh.2.2.2.2.2.2.2)
  go_wp2
  refine bodyPost_ret (v:= .tuple #[.agg #[.slice none 0 0,.slice none 0 0,.slice none 0 0,.slice none 0 0,.slice none 0 0,.int .i64 0],.int .i64 1]) (by simp[results,Tryz.results51,go_sem,r0,r1,r2,r3,r4,r5]) rfl (.inl ⟨zu N,rfl,?_⟩)
  exact six (zu B1) (by omega) _ _ _ _ _ _
 have TT:=zh (show ToldN x.b no fb fs fp fq fc fr from⟨(zu H0).yes,(zu H1).yes,(zu H2).yes,(zu H3).yes,(zu H4).yes,(zu H5).yes,(zu H6).yes,(zu H7).yes⟩)
 have LI:=zh (zu H0).yes.1
 have tl:x.b.ts.length≤30:=(zu H0).yes.1.2.2.2.2.1.1
 clear H0 H1 H2 H3 H4 H5 H6 H7 S0
 go_wp2_with fail
 refine(SCopy.sCopy _ x (zu S1).r).mono ?_
 rintro e w3 ⟨z,hz,rfl,oz,bb⟩
 have S3:=zh ((zu S1).step bb)
 have S4:=zh ((zu S3).step (one_more w3 (.cells #[.slice (some ⟨z.ga,0,none⟩) z.b.ac.length z.ca,.slice (some ⟨z.gi,0,none⟩) z.b.ic.length z.ci,.slice (some ⟨z.gb,0,none⟩) z.b.bs.length z.cb,.slice (some ⟨z.gl,0,none⟩) z.b.ls.length z.cl,.slice (some ⟨z.gt,0,none⟩) z.b.ts.length z.ct,.int .i64 z.b.lot] 44)))
 have V4:=zh (Box.made (w:=w3) (base:=w.heap.size) (g:=w3.heap.size) (.slice (some ⟨z.ga,0,none⟩) z.b.ac.length z.ca) (.slice (some ⟨z.gi,0,none⟩) z.b.ic.length z.ci) (.slice (some ⟨z.gb,0,none⟩) z.b.bs.length z.cb) (.slice (some ⟨z.gl,0,none⟩) z.b.ls.length z.cl) (.slice (some ⟨z.gt,0,none⟩) z.b.ts.length z.ct) (.int .i64 z.b.lot) (zu S3).b.size rfl)
 have O4:=zh (ow_alloc (oz.rebase (zu S1).b.size) (.cells #[.slice (some ⟨z.ga,0,none⟩) z.b.ac.length z.ca,.slice (some ⟨z.gi,0,none⟩) z.b.ic.length z.ci,.slice (some ⟨z.gb,0,none⟩) z.b.bs.length z.cb,.slice (some ⟨z.gl,0,none⟩) z.b.ls.length z.cl,.slice (some ⟨z.gt,0,none⟩) z.b.ts.length z.ct,.int .i64 z.b.lot] 44))
 have HZ:=zh hz
 have l3:=(zu S3).v.lt
 have n3:w.heap.size+1≠w3.heap.size:=by omega
 have n4:w.heap.size≠w3.heap.size:=by omega
 clear bb oz hz S3
 clear c0 c1 c2 c3 c4 c5 r0 r1 r2 r3 r4 r5 f0 f1 f2 f3 f4 f5
 obtain⟨K1,hK1⟩:∃K,Hid (kindOf x.b.ac fb=K):=⟨_,rfl⟩
 obtain⟨K2,hK2⟩:∃K,Hid (kindOf x.b.ac fs=K):=⟨_,rfl⟩
 obtain⟨K3,hK3⟩:∃K,Hid (kindOf x.b.ic fp=K):=⟨_,rfl⟩
 obtain⟨K4,hK4⟩:∃K,Hid (kindOf x.b.ic fc=K):=⟨_,rfl⟩
 have M1:=trivial
 go_wp2_with fail
 generalize w3.alloc (.cells #[.slice (some ⟨z.ga,0,none⟩) z.b.ac.length z.ca,.slice (some ⟨z.gi,0,none⟩) z.b.ic.length z.ci,.slice (some ⟨z.gb,0,none⟩) z.b.bs.length z.cb,.slice (some ⟨z.gl,0,none⟩) z.b.ls.length z.cl,.slice (some ⟨z.gt,0,none⟩) z.b.ts.length z.ct,.int .i64 z.b.lot] 44)=w4 at *
 have Q4:=(zu S4).c.c0
 go_region_held3 (fun w'=>w'.cell? ⟨w.heap.size,0,none⟩=some (.slice (some ⟨x.ga,0,none⟩) x.b.ac.length x.ca)) (first|exact Q4|exact Q5|exact Q6)
  (first|(go_at_call 72;clear M1;refine(SBals.sKindA w4.drew x fb K1 ((zu S4).r.below (Below.refl _ _).drew) (zu LI).1 (zu hK1)).mono ?_;rintro e u1 ⟨rfl,bb⟩;have bW:Below w4.heap.size w4 u1:=ILotsFit.below_of_drew bb;have T1:=zh ((zu S4).step bW);have BW1:=zh bW;have Q5:=(zu T1).c.c0;clear bb bW)|(go_at_call 72;refine(SBals.sKindA u1 x fs K2 (zu T1).r (zu LI).1 (zu hK2)).mono ?_;rintro e u2 ⟨rfl,bb2⟩;have T2:=zh ((zu T1).step bb2);have BW2:=zh ((zu BW1).trans (bb2.mono (zu BW1).size));have Q6:=(zu T2).c.c0;clear bb2))
 clear Q4 Q5 Q6 T1 BW1
 have M1:=trivial
 go_wp2_with fail
 have Q4:=(zu T2).c.c1
 go_region_held3 (fun w'=>w'.cell? ⟨w.heap.size,1,none⟩=some (.slice (some ⟨x.gi,0,none⟩) x.b.ic.length x.ci)) (first|exact Q4|exact Q5|exact Q6)
  (first|(go_at_call 73;clear M1;refine(SBals.sKindI u2.drew x fp K3 ((zu T2).r.below (Below.refl _ _).drew) (zu LI).2.1 (zu hK3)).mono ?_;rintro e u3 ⟨rfl,bb⟩;have bW:Below u2.heap.size u2 u3:=ILotsFit.below_of_drew bb;have T3:=zh ((zu T2).step bW);have BW3:=zh ((zu BW2).trans (bW.mono (zu BW2).size));have Q5:=(zu T3).c.c1;clear bb bW)|(go_at_call 73;refine(SBals.sKindI u3 x fc K4 (zu T3).r (zu LI).2.1 (zu hK4)).mono ?_;rintro e u4 ⟨rfl,bb2⟩;have T4:=zh ((zu T3).step bb2);have BW4:=zh ((zu BW3).trans (bb2.mono (zu BW3).size));have Q6:=(zu T4).c.c1;clear bb2))
 clear Q4 Q5 Q6 T2 T3 BW2 BW3
 obtain⟨c0,c1,c2,c3,c4,c5⟩:=(zu T4).c
 go_wp2_with fail
 refine(STrd.sFind _ x no (zu T4).r).mono ?_
 rintro e w5 ⟨r,hf,rfl,bb⟩
 have S5:=zh ((zu T4).step bb)
 have BW5:=zh ((zu BW4).trans (bb.mono (zu BW4).size))
 have V5:=zh ((zu V4).below (zu BW5) (zu V4).lt.2)
 have O5:=zh ((zu O4).below (zu BW5) (Nat.le_refl _))
 have F1:=zh (off_box (zu O5) (zu S5).v)
 have F2:=zh (off_box (zu O5) (zu V5))
 clear bb S4 V4 O4 T4 BW4 BW5 c0 c1 c2 c3 c4 c5
 obtain⟨c0,c1,c2,c3,c4,c5⟩:=(zu S5).c
 obtain⟨r0,r1,r2,r3,r4,r5,f0,f1,f2,f3,f4,f5⟩:=Box.all ((zu S5).v)
 obtain⟨a0,a1,a2,a3,a4,a5,af0,af1,af2,af3,af4,af5⟩:=Box.all (zu V5)
 rcases hf with⟨k,hk,rfl⟩|⟨hn,rfl⟩
 ·have IZ:=zh (show IsTrade x.b no fb fs fp fq fc fr z.b 2 from .inl ⟨⟨k,hk⟩,zu HZ,rfl⟩)
  clear hk hK1 hK2 hK3 hK4
  go_wp2
  refine bodyPost_ret (v:= .tuple #[.agg #[.slice (some ⟨z.ga,0,none⟩) z.b.ac.length z.ca,.slice (some ⟨z.gi,0,none⟩) z.b.ic.length z.ci,.slice (some ⟨z.gb,0,none⟩) z.b.bs.length z.cb,.slice (some ⟨z.gl,0,none⟩) z.b.ls.length z.cl,.slice (some ⟨z.gt,0,none⟩) z.b.ts.length z.ct,.int .i64 z.b.lot],.int .i64 2]) (by simp[results,Tryz.results51,go_sem,r0,r1,r2,r3,r4,r5]) rfl (.inr ⟨zu TT,z,2,zu IZ,rfl,?_,?_⟩)
  ·exact ow_six (zu O5) (zu F1) _ _ _ _ _ _
  ·exact six (zu S5).b (by omega) _ _ _ _ _ _
 have HN:=zh hn
 clear hn
 have zero:((K1==0)=true∨((K1==0)=false∧(K2==0)=true)∨((K1==0)=false∧(K2==0)=false∧(K3==0)=true)∨((K1==0)=false∧(K2==0)=false∧(K3==0)=false∧(K4==0)=true))∧Hid (NoneT x.b fb fs fp fc)∨((K1==0)=false∧(K2==0)=false∧(K3==0)=false∧(K4==0)=false)∧Hid (¬NoneT x.b fb fs fp fc):=by
  unfold NoneT
  rw[zu hK1,zu hK2,zu hK3,zu hK4]
  by_cases k1:K1=0
  ·exact .inl ⟨.inl (eq_true k1),.inl k1⟩
  by_cases k2:K2=0
  ·exact .inl ⟨.inr (.inl ⟨eq_false k1,eq_true k2⟩),.inr (.inl k2)⟩
  by_cases k3:K3=0
  ·exact .inl ⟨.inr (.inr (.inl ⟨eq_false k1,eq_false k2,eq_true k3⟩)),.inr (.inr (.inl k3))⟩
  by_cases k4:K4=0
  ·exact .inl ⟨.inr (.inr (.inr ⟨eq_false k1,eq_false k2,eq_false k3,eq_true k4⟩)),.inr (.inr (.inr k4))⟩
  ·exact .inr ⟨⟨eq_false k1,eq_false k2,eq_false k3,eq_false k4⟩,fun hh=>by omega⟩
 obtain⟨Z,ZZ⟩|⟨⟨m1,m2,m3,m4⟩,NZ⟩:=zero
 ·have IZ:=zh (show IsTrade x.b no fb fs fp fq fc fr z.b 3 from .inr (.inl ⟨zu HN,zu ZZ,zu HZ,rfl⟩))
  clear hK1 hK2 hK3 hK4 ZZ
  obtain m1|⟨m1,m2⟩|⟨m1,m2,m3⟩|⟨m1,m2,m3,m4⟩:=Z
  all_goals
   go_wp2
   refine bodyPost_ret (v:= .tuple #[.agg #[.slice (some ⟨z.ga,0,none⟩) z.b.ac.length z.ca,.slice (some ⟨z.gi,0,none⟩) z.b.ic.length z.ci,.slice (some ⟨z.gb,0,none⟩) z.b.bs.length z.cb,.slice (some ⟨z.gl,0,none⟩) z.b.ls.length z.cl,.slice (some ⟨z.gt,0,none⟩) z.b.ts.length z.ct,.int .i64 z.b.lot],.int .i64 3]) (by simp[results,Tryz.results51,go_sem,r0,r1,r2,r3,r4,r5]) rfl (.inr ⟨zu TT,z,3,zu IZ,rfl,?_,?_⟩)
   ·exact ow_six (zu O5) (zu F1) _ _ _ _ _ _
   ·exact six (zu S5).b (by omega) _ _ _ _ _ _
 have kinds:((K1 !=1)=true∨((K1 !=1)=false∧(K2 !=1)=true)∨((K1 !=1)=false∧(K2 !=1)=false∧(fb==fs)=true)∨((K1 !=1)=false∧(K2 !=1)=false∧(fb==fs)=false∧(K3 !=2)=true)∨((K1 !=1)=false∧(K2 !=1)=false∧(fb==fs)=false∧(K3 !=2)=false∧(K4 !=1)=true))∧Hid (KindT x.b fb fs fp fc)∨((K1 !=1)=false∧(K2 !=1)=false∧(fb==fs)=false∧(K3 !=2)=false∧(K4 !=1)=false)∧Hid (¬KindT x.b fb fs fp fc):=by
  unfold KindT
  rw[zu hK1,zu hK2,zu hK3,zu hK4]
  by_cases k1:K1=1
  ·by_cases k2:K2=1
   ·by_cases k5:fb=fs
    ·exact .inl ⟨.inr (.inr (.inl ⟨ne_false k1,ne_false k2,eq_true k5⟩)),.inr (.inr (.inl k5))⟩
    ·by_cases k3:K3=2
     ·by_cases k4:K4=1
      ·exact .inr ⟨⟨ne_false k1,ne_false k2,eq_false k5,ne_false k3,ne_false k4⟩,fun hh=>by omega⟩
      ·exact .inl ⟨.inr (.inr (.inr (.inr ⟨ne_false k1,ne_false k2,eq_false k5,ne_false k3,ne_true k4⟩))),.inr (.inr (.inr (.inr k4)))⟩
     ·exact .inl ⟨.inr (.inr (.inr (.inl ⟨ne_false k1,ne_false k2,eq_false k5,ne_true k3⟩))),.inr (.inr (.inr (.inl k3)))⟩
   ·exact .inl ⟨.inr (.inl ⟨ne_false k1,ne_true k2⟩),.inr (.inl k2)⟩
  ·exact .inl ⟨.inl (ne_true k1),.inl k1⟩
 obtain⟨Z,ZZ⟩|⟨⟨q1,q2,q3,q4,q5⟩,NK⟩:=kinds
 ·have IZ:=zh (show IsTrade x.b no fb fs fp fq fc fr z.b 4 from .inr (.inr (.inl ⟨zu HN,zu NZ,zu ZZ,zu HZ,rfl⟩)))
  clear hK1 hK2 hK3 hK4 ZZ NZ
  obtain q1|⟨q1,q2⟩|⟨q1,q2,q3⟩|⟨q1,q2,q3,q4⟩|⟨q1,q2,q3,q4,q5⟩:=Z
  all_goals
   go_wp2
   refine bodyPost_ret (v:= .tuple #[.agg #[.slice (some ⟨z.ga,0,none⟩) z.b.ac.length z.ca,.slice (some ⟨z.gi,0,none⟩) z.b.ic.length z.ci,.slice (some ⟨z.gb,0,none⟩) z.b.bs.length z.cb,.slice (some ⟨z.gl,0,none⟩) z.b.ls.length z.cl,.slice (some ⟨z.gt,0,none⟩) z.b.ts.length z.ct,.int .i64 z.b.lot],.int .i64 4]) (by simp[results,Tryz.results51,go_sem,r0,r1,r2,r3,r4,r5]) rfl (.inr ⟨zu TT,z,4,zu IZ,rfl,?_,?_⟩)
   ·exact ow_six (zu O5) (zu F1) _ _ _ _ _ _
   ·exact six (zu S5).b (by omega) _ _ _ _ _ _
 clear hK1 hK2 hK3 hK4
 by_cases full:x.b.ts.length=30
 ·have IZ:=zh (show IsTrade x.b no fb fs fp fq fc fr z.b 7 from .inr (.inr (.inr (.inl ⟨zu HN,zu NZ,zu NK,full,zu HZ,rfl⟩))))
  have fi:((x.b.ts.length:Int)==30)=true:=by rw[full];rfl
  clear full
  go_wp2
  refine bodyPost_ret (v:= .tuple #[.agg #[.slice (some ⟨z.ga,0,none⟩) z.b.ac.length z.ca,.slice (some ⟨z.gi,0,none⟩) z.b.ic.length z.ci,.slice (some ⟨z.gb,0,none⟩) z.b.bs.length z.cb,.slice (some ⟨z.gl,0,none⟩) z.b.ls.length z.cl,.slice (some ⟨z.gt,0,none⟩) z.b.ts.length z.ct,.int .i64 z.b.lot],.int .i64 7]) (by simp[results,Tryz.results51,go_sem,r0,r1,r2,r3,r4,r5]) rfl (.inr ⟨zu TT,z,7,zu IZ,rfl,?_,?_⟩)
  ·exact ow_six (zu O5) (zu F1) _ _ _ _ _ _
  ·exact six (zu S5).b (by omega) _ _ _ _ _ _
 have fi:((x.b.ts.length:Int)==30)=false:=by
  apply SIssue.eq_false
  omega
 have DONE:=zh (show ∀(g c:Nat),IsTrade x.b no fb fs fp fq fc fr (withT z g c (insT (no,fb,fs,fp,fq,fc,fr,1) x.b.ts)).b 0 from fun g c=> .inr (.inr (.inr (.inr ⟨zu HN,zu NZ,zu NK,full,by show({z.b with ts:=_}:Bk)=_;rw[zu HZ],rfl⟩))))
 clear full HN NZ NK
 have S6:=zh (((zu S5).step (one_more w5 (.cells #[.int .i64 no,.int .i64 fb,.int .i64 fs,.int .i64 fp,.int .i64 fq,.int .i64 fc,.int .i64 fr,.int .i64 1] 82))).step (one_more (w5.alloc (.cells #[.int .i64 no,.int .i64 fb,.int .i64 fs,.int .i64 fp,.int .i64 fq,.int .i64 fc,.int .i64 fr,.int .i64 1] 82)) (.cells #[] 82)))
 have V6:=zh (World.ownsRow.alloc (World.ownsRow.alloc (zu V5) (.cells #[.int .i64 no,.int .i64 fb,.int .i64 fs,.int .i64 fp,.int .i64 fq,.int .i64 fc,.int .i64 fr,.int .i64 1] 82)) (.cells #[] 82))
 have O6:=zh (ow_alloc (ow_alloc (zu O5) (.cells #[.int .i64 no,.int .i64 fb,.int .i64 fs,.int .i64 fp,.int .i64 fq,.int .i64 fc,.int .i64 fr,.int .i64 1] 82)) (.cells #[] 82))
 have X6:=zh ((Box8.made (w:=w5) (base:=w.heap.size) (g:=w5.heap.size) (no,fb,fs,fp,fq,fc,fr,1) (zu S5).b.size rfl).alloc (.cells #[] 82))
 have L6:=zh (show Own8 82 ((w5.alloc (.cells #[.int .i64 no,.int .i64 fb,.int .i64 fs,.int .i64 fp,.int .i64 fq,.int .i64 fc,.int .i64 fr,.int .i64 1] 82)).alloc (.cells #[] 82)) (w5.heap.size+1) (w5.heap.size+1) 0 0 [] from by
  have:=Tup8.lit80 82 (w5.alloc (.cells #[.int .i64 no,.int .i64 fb,.int .i64 fs,.int .i64 fp,.int .i64 fq,.int .i64 fc,.int .i64 fr,.int .i64 1] 82)) (w5.heap.size+1) (by simp)
  simpa using this)
 have z6:((w5.alloc (.cells #[.int .i64 no,.int .i64 fb,.int .i64 fs,.int .i64 fp,.int .i64 fq,.int .i64 fc,.int .i64 fr,.int .i64 1] 82)).alloc (.cells #[] 82)).heap.size=w5.heap.size+1+1:=by simp
 have l5:=(zu S5).v.lt
 have v5:=(zu V5).lt
 have U5:=zh (ow_up (zu O5))
 have IN0:=zh (show Ins (no,fb,fs,fp,fq,fc,fr,1) (x.b.ts.take 0) false [] from .inl ⟨rfl,rfl,fun q hq=>by simp at hq⟩)
 clear S5 V5 O5
 clear c0 c1 c2 c3 c5 r0 r1 r2 r3 r4 r5 f0 f1 f2 f3 f4 f5 a0 a1 a2 a3 a4 a5 af0 af1 af2 af3 af4 af5
 go_wp2
 generalize (w5.alloc (.cells #[.int .i64 no,.int .i64 fb,.int .i64 fs,.int .i64 fp,.int .i64 fq,.int .i64 fc,.int .i64 fr,.int .i64 1] 82)).alloc (.cells #[] 82)=w6 at *
 obtain⟨t0,ht0⟩:∃t0:T8,Hid ((no,fb,fs,fp,fq,fc,fr,1)=t0):=⟨_,rfl⟩
 clear c4
 go_loopw [24,25,26] (fun l p j wr=>∃(qs:List T8) (put:Bool) (g1 c1 k:Nat),l= .slice (some ⟨g1,0,none⟩) qs.length c1∧p= .bool put∧j= .int .i64 k∧k≤x.b.ts.length∧qs.length≤k+1∧Hid (Ins t0 (x.b.ts.take k) put qs)∧Hid (Own8 82 wr (w5.heap.size+1) g1 qs.length c1 qs)∧Hid (Below (w5.heap.size+1) w6 wr)) (fun _ _ j _=>x.b.ts.length-(intOf j).toNat)
 case atStart=>exact⟨[],false,w5.heap.size+1,0,0,rfl,rfl,rfl,by omega,by simp,by rw[←zu ht0];exact IN0,L6,zh (Below.refl _ _)⟩
 case round=>
  clear L6 IN0
  obtain⟨qs,put,g1,cc,k,rfl,rfl,rfl,hk,ql,HI,H1,HB⟩:=hrel
  have bs:=(zu HB).size
  have c4:=(zu S6).c.c4
  have hcl:=(zu HB).cell (p:=⟨w.heap.size,4,none⟩) (show w.heap.size<w5.heap.size+1 by omega)
  rw[←hcl] at c4
  have XB:=zh ((zu X6).below (zu HB) (by omega))
  obtain⟨y0,y1,y2,y3,y4,y5,y6,y7⟩:=And.intro (zu XB).c0 (And.intro (zu XB).c1 (And.intro (zu XB).c2 (And.intro (zu XB).c3 (And.intro (zu XB).c4 (And.intro (zu XB).c5 (And.intro (zu XB).c6 (zu XB).c7))))))
  clear hcl
  by_cases t:k<x.b.ts.length
  ·have gx:=(zu HR).lt
   have l4:=(zu S6).b.size
   have DD:=zh (show ∀W,Below (w5.heap.size+1) w6 W→Tup8.Holds8 W x.gt (k*8) (el8 x.b.ts k)∧W.cell? ⟨w.heap.size,4,none⟩=some (.slice (some ⟨x.gt,0,none⟩) x.b.ts.length x.ct) from fun W hW=>⟨((zu S6).r.rt.below hW (by omega)) k t,(hW.cell (p:=⟨w.heap.size,4,none⟩) (show w.heap.size<w5.heap.size+1 by omega)).trans (zu S6).c.c4⟩)
   have TN:=zh (trade_take (ps:=x.b.ts) (k:=k) t)
   obtain⟨q,hq⟩:∃q,Hid (el8 x.b.ts k=q):=⟨_,rfl⟩
   rw[zu hq] at DD TN
   clear hq
   obtain⟨q0,q1,q2,q3,q4,q5,q6,q7⟩:=q
   obtain⟨⟨d0,d1,d2,d3,d4,d5,d6,d7⟩,_⟩:=(zu DD) wr (zu HB)
   have g1l:=(zu H1).lt.1
   cases put
   ·by_cases ab:q0>no
    ·have qk:qs.length≤k:=by have:=(zu HI).len;rw[List.length_take] at this;omega
     have IN1:=zh ((zu HI).here (q:=(q0,q1,q2,q3,q4,q5,q6,q7)) (by rw[←zu ht0];exact ab))
     rw[←zu TN] at IN1
     have abd:decide (q0>no)=true:=decide_eq_true ab
     clear HI TN ab
     have VT:=zh (show Tup8.Holds8 (wr.alloc (.cells #[.int .i64 no,.int .i64 fb,.int .i64 fs,.int .i64 fp,.int .i64 fq,.int .i64 fc,.int .i64 fr,.int .i64 1] 82)) wr.heap.size 0 (no,fb,fs,fp,fq,fc,fr,1) from by simp[Tup8.Holds8])
     go_wp2_with (first|(at_builtin;refine TradeApp.wp_app _ rfl _ _ rfl (w5.heap.size+1) g1 qs.length cc qs wr.heap.size no fb fs fp fq fc fr 1 rfl rfl ((zu H1).alloc _) (zu VT) (by omega) (by simp;omega) ?_)|go_in)
     intro g7 c7 w7 o7 gr7 loc7
     have O7:=zh o7
     have HB7:=zh (((zu HB).alloc (by omega) (.cells #[.int .i64 no,.int .i64 fb,.int .i64 fs,.int .i64 fp,.int .i64 fq,.int .i64 fc,.int .i64 fr,.int .i64 1] 82)).grown gr7 (by simp;omega) (fun j hj=>by cases hj;exact g1l))
     have s7:=gr7.size
     clear o7 gr7 loc7 VT d0 d1 d2 d3 d4 d5 d6 d7 c4 y0 y1 y2 y3 y4 y5 y6 y7
     obtain⟨⟨d0,d1,d2,d3,d4,d5,d6,d7⟩,c4⟩:=(zu DD) w7 (zu HB7)
     have g7l:=(zu O7).lt.1
     have z7:=(zu HB7).size
     have VQ:=zh (show Tup8.Holds8 (w7.alloc (.cells #[.int .i64 q0,.int .i64 q1,.int .i64 q2,.int .i64 q3,.int .i64 q4,.int .i64 q5,.int .i64 q6,.int .i64 q7] 82)) w7.heap.size 0 (q0,q1,q2,q3,q4,q5,q6,q7) from by simp[Tup8.Holds8])
     go_wp2_with (first|(at_builtin;refine TradeApp.wp_app _ rfl _ _ rfl (w5.heap.size+1) g7 (qs.length+1) c7 (qs++[(no,fb,fs,fp,fq,fc,fr,1)]) w7.heap.size q0 q1 q2 q3 q4 q5 q6 q7 rfl rfl ((zu O7).alloc _) (zu VQ) (by omega) (by simp;omega) ?_)|go_in)
     intro g9 c9 w9 o9 gr9 loc9
     have O9:=zh o9
     have HB9:=zh (((zu HB7).alloc (by omega) (.cells #[.int .i64 q0,.int .i64 q1,.int .i64 q2,.int .i64 q3,.int .i64 q4,.int .i64 q5,.int .i64 q6,.int .i64 q7] 82)).grown gr9 (by simp;omega) (fun j hj=>by cases hj;exact g7l))
     clear o9 gr9 loc9
     go_wp2
     go_roundw
     case rel=>exact⟨qs++[(no,fb,fs,fp,fq,fc,fr,1)]++[(q0,q1,q2,q3,q4,q5,q6,q7)],true,g9,c9,k+1,by rw[show List.length (α:=T8) (qs++[(no,fb,fs,fp,fq,fc,fr,1)]++[(q0,q1,q2,q3,q4,q5,q6,q7)])=qs.length+1+1 by simp],rfl,by go_num,by omega,by simp;omega,by rw[zu ht0];exact IN1,zh (by rw[show List.length (α:=T8) (qs++[(no,fb,fs,fp,fq,fc,fr,1)]++[(q0,q1,q2,q3,q4,q5,q6,q7)])=qs.length+1+1 by simp];rw[List.append_assoc];exact zu O9),HB9⟩
     case measure=>simp[intOf];omega
    ·have IN1:=zh ((zu HI).past (q:=(q0,q1,q2,q3,q4,q5,q6,q7)) (by rw[←zu ht0];exact ab))
     rw[←zu TN] at IN1
     have abd:decide (q0>no)=false:=decide_eq_false ab
     clear HI TN ab
     have VQ:=zh (show Tup8.Holds8 (wr.alloc (.cells #[.int .i64 q0,.int .i64 q1,.int .i64 q2,.int .i64 q3,.int .i64 q4,.int .i64 q5,.int .i64 q6,.int .i64 q7] 82)) wr.heap.size 0 (q0,q1,q2,q3,q4,q5,q6,q7) from by simp[Tup8.Holds8])
     go_wp2_with (first|(at_builtin;refine TradeApp.wp_app _ rfl _ _ rfl (w5.heap.size+1) g1 (qs.length) cc (qs) wr.heap.size q0 q1 q2 q3 q4 q5 q6 q7 rfl rfl ((zu H1).alloc _) (zu VQ) (by omega) (by simp;omega) ?_)|go_in)
     intro g9 c9 w9 o9 gr9 loc9
     have O9:=zh o9
     have HB9:=zh (((zu HB).alloc (by omega) (.cells #[.int .i64 q0,.int .i64 q1,.int .i64 q2,.int .i64 q3,.int .i64 q4,.int .i64 q5,.int .i64 q6,.int .i64 q7] 82)).grown gr9 (by simp;omega) (fun j hj=>by cases hj;exact g1l))
     clear o9 gr9 loc9
     go_wp2
     go_roundw
     case rel=>exact⟨qs++[(q0,q1,q2,q3,q4,q5,q6,q7)],false,g9,c9,k+1,by rw[show List.length (α:=T8) (qs++[(q0,q1,q2,q3,q4,q5,q6,q7)])=qs.length+1 by simp],rfl,by go_num,by omega,by simp;omega,IN1,zh (by rw[show List.length (α:=T8) (qs++[(q0,q1,q2,q3,q4,q5,q6,q7)])=qs.length+1 by simp];exact zu O9),HB9⟩
     case measure=>simp[intOf];omega
   ·have IN1:=zh ((zu HI).more (q:=(q0,q1,q2,q3,q4,q5,q6,q7)))
    rw[←zu TN] at IN1
    clear HI TN
    have VQ:=zh (show Tup8.Holds8 (wr.alloc (.cells #[.int .i64 q0,.int .i64 q1,.int .i64 q2,.int .i64 q3,.int .i64 q4,.int .i64 q5,.int .i64 q6,.int .i64 q7] 82)) wr.heap.size 0 (q0,q1,q2,q3,q4,q5,q6,q7) from by simp[Tup8.Holds8])
    go_wp2_with (first|(at_builtin;refine TradeApp.wp_app _ rfl _ _ rfl (w5.heap.size+1) g1 (qs.length) cc (qs) wr.heap.size q0 q1 q2 q3 q4 q5 q6 q7 rfl rfl ((zu H1).alloc _) (zu VQ) (by omega) (by simp;omega) ?_)|go_in)
    intro g9 c9 w9 o9 gr9 loc9
    have O9:=zh o9
    have HB9:=zh (((zu HB).alloc (by omega) (.cells #[.int .i64 q0,.int .i64 q1,.int .i64 q2,.int .i64 q3,.int .i64 q4,.int .i64 q5,.int .i64 q6,.int .i64 q7] 82)).grown gr9 (by simp;omega) (fun j hj=>by cases hj;exact g1l))
    clear o9 gr9 loc9
    go_wp2
    go_roundw
    case rel=>exact⟨qs++[(q0,q1,q2,q3,q4,q5,q6,q7)],true,g9,c9,k+1,by rw[show List.length (α:=T8) (qs++[(q0,q1,q2,q3,q4,q5,q6,q7)])=qs.length+1 by simp],rfl,by go_num,by omega,by simp;omega,IN1,zh (by rw[show List.length (α:=T8) (qs++[(q0,q1,q2,q3,q4,q5,q6,q7)])=qs.length+1 by simp];exact zu O9),HB9⟩
    case measure=>simp[intOf];omega
  ·obtain rfl:k=x.b.ts.length:=by omega
   rw[List.take_length] at HI
   have g1l:=(zu H1).lt
   have v6:=(zu V6).lt
   have sv:=(zu S6).v.lt
   cases put
   ·have IN1:=zh ((zu HI).last)
    clear HI
    have VT:=zh (show Tup8.Holds8 (wr.alloc (.cells #[.int .i64 no,.int .i64 fb,.int .i64 fs,.int .i64 fp,.int .i64 fq,.int .i64 fc,.int .i64 fr,.int .i64 1] 82)) wr.heap.size 0 (no,fb,fs,fp,fq,fc,fr,1) from by simp[Tup8.Holds8])
    go_wp2_with (first|(at_builtin;refine TradeApp.wp_app _ rfl _ _ rfl (w5.heap.size+1) g1 qs.length cc qs wr.heap.size no fb fs fp fq fc fr 1 rfl rfl ((zu H1).alloc _) (zu VT) (by omega) (by simp;omega) ?_)|go_in)
    intro g9 c9 w9 o9 gr9 loc9
    have O9:=zh o9
    have HB9:=zh (((zu HB).alloc (by omega) (.cells #[.int .i64 no,.int .i64 fb,.int .i64 fs,.int .i64 fp,.int .i64 fq,.int .i64 fc,.int .i64 fr,.int .i64 1] 82)).grown gr9 (by simp;omega) (fun j hj=>by cases hj;exact g1l.1))
    clear o9 gr9 loc9 VT
    obtain⟨R,hR⟩:∃R:List T8,Hid ((qs++[(no,fb,fs,fp,fq,fc,fr,1)]:List T8)=R):=⟨_,zh rfl⟩
    have RL:qs.length+1=R.length:=by rw[←zu hR];simp
    rw[zu hR,RL] at O9
    rw[RL]
    have IR:=zh (show R=insT (no,fb,fs,fp,fq,fc,fr,1) x.b.ts from by rw[←zu hR,zu ht0];exact zu IN1)
    clear IN1 hR RL
    have g9l:=(zu O9).lt
    have SV9:=zh ((zu S6).v.below (zu HB9) (by omega))
    have V9:=zh (Box.below (zu V6) (zu HB9) (by omega))
    have O9Z:=zh (ow_below_up (zu O6) (zu HB9) (up_mono (zu U5) (by omega)))
    have B9:=zh ((zu S6).b.trans ((zu HB9).mono (by omega)))
    have OY:=zh (ow_withT (zu O9Z) ((zu O9).rebase (base':=w.heap.size) (by omega)))
    have F3:=zh (off_box (zu OY) (zu V9))
    have F4:=zh (off_box (zu OY) (zu SV9))
    have IZ:=zh (show IsTrade x.b no fb fs fp fq fc fr (withT z g9 c9 R).b 0 from by rw[zu IR];exact(zu DONE) g9 c9)
    obtain⟨a0,a1,a2,a3,a4,a5,af0,af1,af2,af3,af4,af5⟩:=Box.all (zu V9)
    obtain⟨r0,r1,r2,r3,r4,r5,rf0,rf1,rf2,rf3,rf4,rf5⟩:=Box.all (zu SV9)
    go_wp2
    refine to_wb (fun W=>Box W w.heap.size (w.heap.size+1) (.slice (some ⟨z.ga,0,none⟩) z.b.ac.length z.ca) (.slice (some ⟨z.gi,0,none⟩) z.b.ic.length z.ci) (.slice (some ⟨z.gb,0,none⟩) z.b.bs.length z.cb) (.slice (some ⟨z.gl,0,none⟩) z.b.ls.length z.cl) (.slice (some ⟨g9,0,none⟩) R.length c9) (.int .i64 z.b.lot)∧Below w.heap.size w W∧Ow W w.heap.size (withT z g9 c9 R)) ?_ ?_
    ·exact⟨(box_six ((zu SV9).kept ((zu V9).set4 (.slice (some ⟨g9,0,none⟩) R.length c9)).2 (fun e=>by injection e;omega)) _ _ _ _ _ _).1,six ((zu B9).setCell (p:=⟨w3.heap.size,4,none⟩) (show w.heap.size≤w3.heap.size by omega) _) (by omega) _ _ _ _ _ _,ow_six (ow_set (zu OY) (zu F3) 4 _) (zu F4) _ _ _ _ _ _⟩
    rintro W ⟨X,B,OW⟩
    have p0:=X.c0
    have p1:=X.c1
    have p2:=X.c2
    have p3:=X.c3
    have p4:=X.c4
    have p5:=X.c5
    exact bodyPost_ret (v:= .tuple #[.agg #[.slice (some ⟨z.ga,0,none⟩) z.b.ac.length z.ca,.slice (some ⟨z.gi,0,none⟩) z.b.ic.length z.ci,.slice (some ⟨z.gb,0,none⟩) z.b.bs.length z.cb,.slice (some ⟨z.gl,0,none⟩) z.b.ls.length z.cl,.slice (some ⟨g9,0,none⟩) R.length c9,.int .i64 z.b.lot],.int .i64 0]) (by simp[results,Tryz.results51,go_sem,p0,p1,p2,p3,p4,p5]) rfl (.inr ⟨zu TT,withT z g9 c9 R,0,zu IZ,rfl,OW,B⟩)
   ·have IN1:=zh ((zu HI).all)
    clear HI
    obtain⟨R,g9,c9,w9,rfl,rfl,rfl,rfl⟩:∃R g9 c9 w9,R=qs∧g9=g1∧c9=cc∧w9=wr:=⟨_,_,_,_,rfl,rfl,rfl,rfl⟩
    have O9:=H1
    have HB9:=HB
    have IR:=zh (show R=insT (no,fb,fs,fp,fq,fc,fr,1) x.b.ts from by rw[zu ht0];exact zu IN1)
    clear IN1
    have g9l:=(zu O9).lt
    have SV9:=zh ((zu S6).v.below (zu HB9) (by omega))
    have V9:=zh (Box.below (zu V6) (zu HB9) (by omega))
    have O9Z:=zh (ow_below_up (zu O6) (zu HB9) (up_mono (zu U5) (by omega)))
    have B9:=zh ((zu S6).b.trans ((zu HB9).mono (by omega)))
    have OY:=zh (ow_withT (zu O9Z) ((zu O9).rebase (base':=w.heap.size) (by omega)))
    have F3:=zh (off_box (zu OY) (zu V9))
    have F4:=zh (off_box (zu OY) (zu SV9))
    have IZ:=zh (show IsTrade x.b no fb fs fp fq fc fr (withT z g9 c9 R).b 0 from by rw[zu IR];exact(zu DONE) g9 c9)
    obtain⟨a0,a1,a2,a3,a4,a5,af0,af1,af2,af3,af4,af5⟩:=Box.all (zu V9)
    obtain⟨r0,r1,r2,r3,r4,r5,rf0,rf1,rf2,rf3,rf4,rf5⟩:=Box.all (zu SV9)
    go_wp2
    refine to_wb (fun W=>Box W w.heap.size (w.heap.size+1) (.slice (some ⟨z.ga,0,none⟩) z.b.ac.length z.ca) (.slice (some ⟨z.gi,0,none⟩) z.b.ic.length z.ci) (.slice (some ⟨z.gb,0,none⟩) z.b.bs.length z.cb) (.slice (some ⟨z.gl,0,none⟩) z.b.ls.length z.cl) (.slice (some ⟨g9,0,none⟩) R.length c9) (.int .i64 z.b.lot)∧Below w.heap.size w W∧Ow W w.heap.size (withT z g9 c9 R)) ?_ ?_
    ·exact⟨(box_six ((zu SV9).kept ((zu V9).set4 (.slice (some ⟨g9,0,none⟩) R.length c9)).2 (fun e=>by injection e;omega)) _ _ _ _ _ _).1,six ((zu B9).setCell (p:=⟨w3.heap.size,4,none⟩) (show w.heap.size≤w3.heap.size by omega) _) (by omega) _ _ _ _ _ _,ow_six (ow_set (zu OY) (zu F3) 4 _) (zu F4) _ _ _ _ _ _⟩
    rintro W ⟨X,B,OW⟩
    have p0:=X.c0
    have p1:=X.c1
    have p2:=X.c2
    have p3:=X.c3
    have p4:=X.c4
    have p5:=X.c5
    exact bodyPost_ret (v:= .tuple #[.agg #[.slice (some ⟨z.ga,0,none⟩) z.b.ac.length z.ca,.slice (some ⟨z.gi,0,none⟩) z.b.ic.length z.ci,.slice (some ⟨z.gb,0,none⟩) z.b.bs.length z.cb,.slice (some ⟨z.gl,0,none⟩) z.b.ls.length z.cl,.slice (some ⟨g9,0,none⟩) R.length c9,.int .i64 z.b.lot],.int .i64 0]) (by simp[results,Tryz.results51,go_sem,p0,p1,p2,p3,p4,p5]) rfl (.inr ⟨zu TT,withT z g9 c9 R,0,zu IZ,rfl,OW,B⟩)
end STrade
namespace SCancel
open BMem Bks ILists BHelp Ans Trd TBox
open IBalsFit (one_more)
open Lots (Says says_of NoOk)
open Tup8 (T8 el8)
open SIssue (to_wb off_box eq_false)
def ToldC(b:Bk)(no:Int):Prop:=Ok b∧NoOk no
theorem sCancel(w:World)(x:Bx)(no:Int)(hr:Rd w x):
  Calls Tryz.prog 52 #[.agg #[.slice (some ⟨x.ga,0,none⟩) x.b.ac.length x.ca,.slice (some ⟨x.gi,0,none⟩) x.b.ic.length x.ci,.slice (some ⟨x.gb,0,none⟩) x.b.bs.length x.cb,.slice (some ⟨x.gl,0,none⟩) x.b.ls.length x.cl,.slice (some ⟨x.gt,0,none⟩) x.b.ts.length x.ct,.int .i64 x.b.lot],.int .i64 no] w (AnsB (ToldC x.b no) (IsCancel x.b no) w):=by
 obtain⟨b0,h0⟩:=says_of (Ok x.b)
 obtain⟨b1,h1⟩:=says_of (NoOk no)
 have H0:=zh h0
 have H1:=zh h1
 have S0:=zh (SR.start hr)
 have HR:=zh hr
 have nt:=hr.nt
 clear h0 h1 hr
 go_enter Tryz.func52,Tryz.ntmps52
 go_wp2_with fail
 refine(SBooksOk.sBooksOk _ x b0 (zu S0).r (zu H0)).mono ?_
 rintro e w1 ⟨rfl,bb⟩
 have S1:=zh ((zu S0).step bb)
 have B1:=zh (zu S1).b
 clear bb
 obtain⟨c0,c1,c2,c3,c4,c5⟩:=(zu S1).c
 obtain⟨r0,r1,r2,r3,r4,r5,f0,f1,f2,f3,f4,f5⟩:=Box.all ((zu S1).v)
 cases b0
 ·have N:=zh (show ¬ToldC x.b no from fun hh=>(zu H0).no hh.1)
  go_wp2
  refine bodyPost_ret (v:= .tuple #[.agg #[.slice none 0 0,.slice none 0 0,.slice none 0 0,.slice none 0 0,.slice none 0 0,.int .i64 0],.int .i64 1]) (by simp[results,Tryz.results52,go_sem,r0,r1,r2,r3,r4,r5]) rfl (.inl ⟨zu N,rfl,?_⟩)
  exact six (zu B1) (by omega) _ _ _ _ _ _
 go_wp2_with fail
 refine(SOk5.sNo no b1 _ (zu H1)).mono ?_
 rintro e v1 ⟨rfl,rfl⟩
 cases b1
 ·have N:=zh (show ¬ToldC x.b no from fun hh=>(zu H1).no hh.2)
  go_wp2
  refine bodyPost_ret (v:= .tuple #[.agg #[.slice none 0 0,.slice none 0 0,.slice none 0 0,.slice none 0 0,.slice none 0 0,.int .i64 0],.int .i64 1]) (by simp[results,Tryz.results52,go_sem,r0,r1,r2,r3,r4,r5]) rfl (.inl ⟨zu N,rfl,?_⟩)
  exact six (zu B1) (by omega) _ _ _ _ _ _
 have TT:=zh (show ToldC x.b no from⟨(zu H0).yes,(zu H1).yes⟩)
 clear H0 H1 S0
 go_wp2_with fail
 refine(SCopy.sCopy _ x (zu S1).r).mono ?_
 rintro e w3 ⟨z,hz,rfl,oz,bb⟩
 have S3:=zh ((zu S1).step bb)
 have S4:=zh ((zu S3).step (one_more w3 (.cells #[.slice (some ⟨z.ga,0,none⟩) z.b.ac.length z.ca,.slice (some ⟨z.gi,0,none⟩) z.b.ic.length z.ci,.slice (some ⟨z.gb,0,none⟩) z.b.bs.length z.cb,.slice (some ⟨z.gl,0,none⟩) z.b.ls.length z.cl,.slice (some ⟨z.gt,0,none⟩) z.b.ts.length z.ct,.int .i64 z.b.lot] 44)))
 have V4:=zh (Box.made (w:=w3) (base:=w.heap.size) (g:=w3.heap.size) (.slice (some ⟨z.ga,0,none⟩) z.b.ac.length z.ca) (.slice (some ⟨z.gi,0,none⟩) z.b.ic.length z.ci) (.slice (some ⟨z.gb,0,none⟩) z.b.bs.length z.cb) (.slice (some ⟨z.gl,0,none⟩) z.b.ls.length z.cl) (.slice (some ⟨z.gt,0,none⟩) z.b.ts.length z.ct) (.int .i64 z.b.lot) (zu S3).b.size rfl)
 have O4:=zh (ow_alloc (oz.rebase (zu S1).b.size) (.cells #[.slice (some ⟨z.ga,0,none⟩) z.b.ac.length z.ca,.slice (some ⟨z.gi,0,none⟩) z.b.ic.length z.ci,.slice (some ⟨z.gb,0,none⟩) z.b.bs.length z.cb,.slice (some ⟨z.gl,0,none⟩) z.b.ls.length z.cl,.slice (some ⟨z.gt,0,none⟩) z.b.ts.length z.ct,.int .i64 z.b.lot] 44))
 have HZ:=zh hz
 have LZ:=zh (show z.b.ts.length=x.b.ts.length by rw[hz])
 have l3:=(zu S3).v.lt
 clear bb oz hz
 clear c0 c1 c2 c3 c4 c5 r0 r1 r2 r3 r4 r5 f0 f1 f2 f3 f4 f5
 obtain⟨c0,c1,c2,c3,c4,c5⟩:=(zu S4).c
 obtain⟨r0,r1,r2,r3,r4,r5,f0,f1,f2,f3,f4,f5⟩:=Box.all ((zu S4).v)
 have n4:w.heap.size≠w3.heap.size:=by omega
 go_wp2_with fail
 clear S3
 generalize w3.alloc (.cells #[.slice (some ⟨z.ga,0,none⟩) z.b.ac.length z.ca,.slice (some ⟨z.gi,0,none⟩) z.b.ic.length z.ci,.slice (some ⟨z.gb,0,none⟩) z.b.bs.length z.cb,.slice (some ⟨z.gl,0,none⟩) z.b.ls.length z.cl,.slice (some ⟨z.gt,0,none⟩) z.b.ts.length z.ct,.int .i64 z.b.lot] 44)=w4 at *
 refine(STrd.sOpenAt _ x no (zu S4).r).mono ?_
 rintro e w5 ⟨r,c,ho,rfl,bb⟩
 have S5:=zh ((zu S4).step bb)
 have V5:=zh ((zu V4).below bb (zu V4).lt.2)
 have O5:=zh ((zu O4).below bb (Nat.le_refl _))
 have F1:=zh (off_box (zu O5) (zu S5).v)
 have F2:=zh (off_box (zu O5) (zu V5))
 have n1:=(zu F1).2.2.2.2
 have n2:=(zu F2).2.2.2.2
 have n3:w.heap.size+1≠w3.heap.size:=by omega
 clear bb S4 V4 O4
 clear c0 c1 c2 c3 c4 c5 r0 r1 r2 r3 r4 r5 f0 f1 f2 f3 f4 f5
 obtain⟨c0,c1,c2,c3,c4,c5⟩:=(zu S5).c
 obtain⟨r0,r1,r2,r3,r4,r5,f0,f1,f2,f3,f4,f5⟩:=Box.all ((zu S5).v)
 obtain⟨a0,a1,a2,a3,a4,a5,af0,af1,af2,af3,af4,af5⟩:=Box.all (zu V5)
 rcases ho with⟨hn,rfl,rfl⟩|⟨k,hk,rfl,⟨hst,rfl⟩|⟨hst,rfl⟩⟩
 ·have IZ:=zh (show IsCancel x.b no z.b 3 from .inl ⟨hn,zu HZ,rfl⟩)
  clear hn
  go_wp2
  refine bodyPost_ret (v:= .tuple #[.agg #[.slice (some ⟨z.ga,0,none⟩) z.b.ac.length z.ca,.slice (some ⟨z.gi,0,none⟩) z.b.ic.length z.ci,.slice (some ⟨z.gb,0,none⟩) z.b.bs.length z.cb,.slice (some ⟨z.gl,0,none⟩) z.b.ls.length z.cl,.slice (some ⟨z.gt,0,none⟩) z.b.ts.length z.ct,.int .i64 z.b.lot],.int .i64 3]) (by simp[results,Tryz.results52,go_sem,r0,r1,r2,r3,r4,r5]) rfl (.inr ⟨zu TT,z,3,zu IZ,rfl,?_,?_⟩)
  ·exact ow_six (zu O5) (zu F1) _ _ _ _ _ _
  ·exact six (zu S5).b (by omega) _ _ _ _ _ _
 ·have IZ:=zh (show IsCancel x.b no z.b 6 from .inr ⟨k,hk,.inl ⟨hst,zu HZ,rfl⟩⟩)
  clear hk hst
  go_wp2
  refine bodyPost_ret (v:= .tuple #[.agg #[.slice (some ⟨z.ga,0,none⟩) z.b.ac.length z.ca,.slice (some ⟨z.gi,0,none⟩) z.b.ic.length z.ci,.slice (some ⟨z.gb,0,none⟩) z.b.bs.length z.cb,.slice (some ⟨z.gl,0,none⟩) z.b.ls.length z.cl,.slice (some ⟨z.gt,0,none⟩) z.b.ts.length z.ct,.int .i64 z.b.lot],.int .i64 6]) (by simp[results,Tryz.results52,go_sem,r0,r1,r2,r3,r4,r5]) rfl (.inr ⟨zu TT,z,6,zu IZ,rfl,?_,?_⟩)
  ·exact ow_six (zu O5) (zu F1) _ _ _ _ _ _
  ·exact six (zu S5).b (by omega) _ _ _ _ _ _
 ·have IZ:=zh (show IsCancel x.b no (withS z k 3).b 0 from .inr ⟨k,hk,.inr ⟨hst,by show({z.b with ts:=setState z.b.ts k 3}:Bk)=_;rw[zu HZ],rfl⟩⟩)
  have t:k<z.b.ts.length:=by rw[zu LZ];exact hk.1
  have nz:z.b.ts.length≤1048576:=by rw[zu LZ];exact nt
  obtain⟨d0,d1,d2,d3,d4,d5,d6,d7⟩:=(zu O5).ot.at k t
  have d8:=(zu O5).ot.free (k*8+7)
  have gl:=(zu O5).ot.lt
  clear hk hst d0 d1 d2 d3 d4 d5 d6
  go_wp2
  refine to_wb (fun W=>Box W w.heap.size (w.heap.size+1) (.slice (some ⟨z.ga,0,none⟩) z.b.ac.length z.ca) (.slice (some ⟨z.gi,0,none⟩) z.b.ic.length z.ci) (.slice (some ⟨z.gb,0,none⟩) z.b.bs.length z.cb) (.slice (some ⟨z.gl,0,none⟩) z.b.ls.length z.cl) (.slice (some ⟨z.gt,0,none⟩) z.b.ts.length z.ct) (.int .i64 z.b.lot)∧Below w.heap.size w W∧Ow W w.heap.size (withS z k 3)) ?_ ?_
  ·exact⟨(box_six ((zu S5).v.kept (state_grown (zu O5) k 3) (fun e=>by injection e;omega)) _ _ _ _ _ _).1,six ((zu S5).b.setCell (p:=⟨z.gt,k*8+7,none⟩) gl.1 _) (by omega) _ _ _ _ _ _,ow_six (ow_state (zu O5) k 3) (zu F1) _ _ _ _ _ _⟩
  rintro W ⟨X,B,OW⟩
  have p0:=X.c0
  have p1:=X.c1
  have p2:=X.c2
  have p3:=X.c3
  have p4:=X.c4
  have p5:=X.c5
  exact bodyPost_ret (v:= .tuple #[.agg #[.slice (some ⟨z.ga,0,none⟩) z.b.ac.length z.ca,.slice (some ⟨z.gi,0,none⟩) z.b.ic.length z.ci,.slice (some ⟨z.gb,0,none⟩) z.b.bs.length z.cb,.slice (some ⟨z.gl,0,none⟩) z.b.ls.length z.cl,.slice (some ⟨z.gt,0,none⟩) z.b.ts.length z.ct,.int .i64 z.b.lot],.int .i64 0]) (by simp[results,Tryz.results52,go_sem,p0,p1,p2,p3,p4,p5]) rfl (.inr ⟨zu TT,withS z k 3,0,zu IZ,by simp[set_len],OW,B⟩)
end SCancel
namespace SLegs
open BMem Bks ILists Trd
open Bals (T3)
open Tup8 (T8 el8)
open Triples (Own3 At3 flat3 flat3_len flat3_one flat3_append own3_of_row)
theorem own_pair(w:World)(a c i q:Int):Own3 181 (w.alloc (.cells #[.int .i64 a,.int .i64 i,.int .i64 (-q),.int .i64 c,.int .i64 i,.int .i64 q] 181)) w.heap.size w.heap.size 2 2 (pairL a c i q):=
 World.ownsRow_lit w #[.int .i64 a,.int .i64 i,.int .i64 (-q),.int .i64 c,.int .i64 i,.int .i64 q] 2 (Nat.le_refl _) (by decide) rfl
theorem sPairO(w:World)(a c i q:Int)(q1:0≤q)(q2:q≤1000000000000000):
  Calls Tryz.prog 78 #[.int .i64 a,.int .i64 c,.int .i64 i,.int .i64 q] w fun e w'=>∃g,e= .returned (.slice (some ⟨g,0,none⟩) 2 2)∧Own3 181 w' w.heap.size g 2 2 (pairL a c i q)∧Below w.heap.size w w':=by
 have A:=zh (own_pair w a c i q)
 go_enter Tryz.func78,Tryz.ntmps78
 go_wp2
 go_ret
 exact⟨w.heap.size,rfl,zu A,(Below.refl _ _).alloc (Nat.le_refl _) _⟩
theorem step_cat3(u:World){ops:Array Oper}{o:Oper}{a:Act}{K:Act→World→Prop}{Q:Exit→Act→World→Prop}{E:Prop}(hgd:o.guard=none)(s x:Operand)
  (ho:o.op= .call {callee:= .builtin .append,args:= #[s,x],argTypes:= #[106,106]})(base g n cap m:Nat)(ps qs:List T3)(vb c:Nat)
  (hs:a.eval s= .slice (some ⟨g,0,none⟩) n cap)(hx:a.eval x= .slice (some ⟨vb,0,none⟩) m c)(hown:Own3 181 u base g n cap ps)(hl:qs.length=m)(hv:At3 u vb qs)(hn:n+m≤1048576)(hb:base≤u.heap.size)
  (h:∀g' c' w',Own3 181 w' base g' (n+m) c' (ps++qs)→u.grownBy w' (some g)→(g'=g∨g'=u.heap.size)→K (a.put o.dst (.slice (some ⟨g',0,none⟩) (n+m) c')) w'):if Region.wanted o (yielded ops a.tmps)=true then Oper.wp Tryz.prog o a u K Q else E:=by
 obtain⟨i0,hi,hz0,hz1,hz2⟩:=info_parts LegApp.info2
 have hw:Region.wanted o (yielded ops a.tmps)=true:=by simp[Region.wanted,hgd]
 rw[if_pos hw]
 obtain⟨v',w',hr,own',gr',nil',loc'⟩:=run_append_own_at (P:=Tryz.prog) u base 106 o.type 181 i0 (.agg #[.int .i64 0,.int .i64 0,.int .i64 0]) 3 24 Tryz.underlying106 hi hz0 hz1 hz2 rfl (by decide) (.slice (some ⟨g,0,none⟩) n cap) n (flat3 ps) hown ⟨vb,0,none⟩ m c (flat3 qs) (by rw[flat3_len,hl]) hv.cells (fun u hu=>flat3_one u _ hu) (by unfold maxLen;omega) (by omega) hb
 unfold Oper.wp execOp
 simp only[ho,resolve,invoke,builtin,Sem.run_bind,Sem.run_pure,Result.andThen_ok,List.map_toArray,List.map_cons,List.map_nil,hs,hx,hr]
 obtain⟨g',c',rfl,o'⟩:=own3_of_row (n':=n+m) (ps:=ps++qs) own' rfl (by rw[flat3_append]) (by rw[nil'];simp)
 exact h g' c' w' o' gr' (by simpa[Value.ownBlock] using loc')
def Six8(w:World)(g:Nat)(b s p q c r:Int):Prop:=w.cell? ⟨g,1,none⟩=some (.int .i64 b)∧w.cell? ⟨g,2,none⟩=some (.int .i64 s)∧w.cell? ⟨g,3,none⟩=some (.int .i64 p)∧w.cell? ⟨g,4,none⟩=some (.int .i64 q)∧w.cell? ⟨g,5,none⟩=some (.int .i64 c)∧w.cell? ⟨g,6,none⟩=some (.int .i64 r)
theorem Six8.below{w w':World}{g B:Nat}{b s p q c r:Int}(h:Six8 w g b s p q c r)(k:Below B w w')(hg:g<B):Six8 w' g b s p q c r:=
 ⟨(k.cell (p:=⟨g,1,none⟩) hg).trans h.1,(k.cell (p:=⟨g,2,none⟩) hg).trans h.2.1,(k.cell (p:=⟨g,3,none⟩) hg).trans h.2.2.1,(k.cell (p:=⟨g,4,none⟩) hg).trans h.2.2.2.1,(k.cell (p:=⟨g,5,none⟩) hg).trans h.2.2.2.2.1,(k.cell (p:=⟨g,6,none⟩) hg).trans h.2.2.2.2.2⟩
theorem sLegs(w:World)(n b s p q c r st:Int)(q1:0≤q)(q2:q≤1000000000000000)(r1:0≤r)(r2:r≤1000000000000000):
  Calls Tryz.prog 83 #[.agg #[.int .i64 n,.int .i64 b,.int .i64 s,.int .i64 p,.int .i64 q,.int .i64 c,.int .i64 r,.int .i64 st]] w fun e w'=>∃g cap,e= .returned (.slice (some ⟨g,0,none⟩) 4 cap)∧Own3 181 w' w.heap.size g 4 cap (legsT (n,b,s,p,q,c,r,st))∧Below w.heap.size w w':=by
 have B0:=zh (show Below w.heap.size w (w.alloc (.cells #[.int .i64 n,.int .i64 b,.int .i64 s,.int .i64 p,.int .i64 q,.int .i64 c,.int .i64 r,.int .i64 st] 82)) from(Below.refl _ _).alloc (Nat.le_refl _) _)
 have C0:=zh (show Six8 (w.alloc (.cells #[.int .i64 n,.int .i64 b,.int .i64 s,.int .i64 p,.int .i64 q,.int .i64 c,.int .i64 r,.int .i64 st] 82)) w.heap.size b s p q c r from by simp[Six8])
 have z0:w.heap.size<(w.alloc (.cells #[.int .i64 n,.int .i64 b,.int .i64 s,.int .i64 p,.int .i64 q,.int .i64 c,.int .i64 r,.int .i64 st] 82)).heap.size:=by simp
 have M1:=trivial
 go_enter Tryz.func83,Tryz.ntmps83
 go_wp2_with fail
 generalize w.alloc (.cells #[.int .i64 n,.int .i64 b,.int .i64 s,.int .i64 p,.int .i64 q,.int .i64 c,.int .i64 r,.int .i64 st] 82)=w1 at *
 have K4:=zu C0
 unfold Six8 at K4
 go_region_held3 (fun w'=>w'.cell? ⟨w.heap.size,1,none⟩=some (.int .i64 b)∧w'.cell? ⟨w.heap.size,2,none⟩=some (.int .i64 s)∧w'.cell? ⟨w.heap.size,3,none⟩=some (.int .i64 p)∧w'.cell? ⟨w.heap.size,4,none⟩=some (.int .i64 q)∧w'.cell? ⟨w.heap.size,5,none⟩=some (.int .i64 c)∧w'.cell? ⟨w.heap.size,6,none⟩=some (.int .i64 r)) (first|exact K4|exact K5|exact K6|exact K7)
  (first|(go_at_call 78;clear M1;refine(sPairO w1.drew b s c r r1 r2).mono ?_;rintro e u1 ⟨g1,rfl,o1,bb⟩;have bW:=zh (show Below w1.heap.size w1 u1 from ILotsFit.below_of_drew bb);have K5:=(zu C0).below (zu bW) z0;unfold Six8 at K5;have O1:=zh (show Own3 181 u1 w1.heap.size g1 2 2 (pairL b s c r) from o1);have z1:=(zu bW).size;clear bb o1)|(go_at_call 78;refine(sPairO u1 s b p q q1 q2).mono ?_;rintro e u2 ⟨g2,rfl,o2,bb2⟩;have bX:=zh ((zu bW).trans (bb2.mono z1));have K6:=(zu C0).below (zu bX) z0;unfold Six8 at K6;have O2:=zh o2;have O3:=zh ((zu O1).below bb2 (zu O1).lt.2);have z2:=bb2.size;clear bb2 o2)|(refine step_cat3 _ (by rfl) _ _ (by rfl) w1.heap.size g1 2 2 2 (pairL b s c r) (pairL s b p q) g2 2 (by rfl) (by rfl) (by exact zu O3) (by rfl) (by exact(zu O2).at) (by omega) (by omega) ?_;intro g3 c3 w3 o3 gr3 loc3;have g1l:=(zu O3).lt.1;have BZ:=zh ((zu bX).grown gr3 (by omega) (fun j hj=>by cases hj;exact g1l));have K7:=(zu C0).below (zu BZ) z0;unfold Six8 at K7;have O4:=zh o3;clear o3 gr3 loc3))
 go_wp2
 go_ret
 exact⟨g3,c3,rfl,(zu O4).rebase (by have:=(zu O4).lt.1;omega),(zu B0).trans ((zu BZ).mono (by omega))⟩
end SLegs
namespace STell
open BMem Bks ILists IBalsFit Ans Trd TBox
open Lots (Says says_of NoOk)
open Tup8 (T8 el8)
open SIssue (to_wb)
def IsOpens(b:Bk)(lo hi:Int)(xs:List Int):Prop:=(Ok b∧xs=openT lo hi b.ts)∨(¬Ok b∧xs=[])
theorem sTradesOpen(w:World)(x:Bx)(lo hi:Int)(h:Rd w x):
  Calls Tryz.prog 84 #[.agg #[.slice (some ⟨x.ga,0,none⟩) x.b.ac.length x.ca,.slice (some ⟨x.gi,0,none⟩) x.b.ic.length x.ci,.slice (some ⟨x.gb,0,none⟩) x.b.bs.length x.cb,.slice (some ⟨x.gl,0,none⟩) x.b.ls.length x.cl,.slice (some ⟨x.gt,0,none⟩) x.b.ts.length x.ct,.int .i64 x.b.lot],.int .i64 lo,.int .i64 hi] w fun e w'=>∃(xs:List Int) (g c:Nat),IsOpens x.b lo hi xs∧xs.length≤x.b.ts.length∧e= .returned (.slice (some ⟨g,0,none⟩) xs.length c)∧Ints.Own w' w.heap.size g xs.length c xs∧Below w.heap.size w w':=by
 obtain⟨b0,h0⟩:=says_of (Ok x.b)
 have H0:=zh h0
 have nt:=h.nt
 have S0R:=zh h
 have S0:=zh ((St.start h 44).step (one_more (w.alloc (.cells #[.slice (some ⟨x.ga,0,none⟩) x.b.ac.length x.ca,.slice (some ⟨x.gi,0,none⟩) x.b.ic.length x.ci,.slice (some ⟨x.gb,0,none⟩) x.b.bs.length x.cb,.slice (some ⟨x.gl,0,none⟩) x.b.ls.length x.cl,.slice (some ⟨x.gt,0,none⟩) x.b.ts.length x.ct,.int .i64 x.b.lot] 44)) (.cells #[] 3)))
 have O0:=zh (Shorts.lit0 (w.alloc (.cells #[.slice (some ⟨x.ga,0,none⟩) x.b.ac.length x.ca,.slice (some ⟨x.gi,0,none⟩) x.b.ic.length x.ci,.slice (some ⟨x.gb,0,none⟩) x.b.bs.length x.cb,.slice (some ⟨x.gl,0,none⟩) x.b.ls.length x.cl,.slice (some ⟨x.gt,0,none⟩) x.b.ts.length x.ct,.int .i64 x.b.lot] 44)) (w.heap.size+1) (g:=w.heap.size+1) (by simp) (by simp))
 clear h0 h
 go_enter Tryz.func84,Tryz.ntmps84
 go_wp2
 generalize (w.alloc (.cells #[.slice (some ⟨x.ga,0,none⟩) x.b.ac.length x.ca,.slice (some ⟨x.gi,0,none⟩) x.b.ic.length x.ci,.slice (some ⟨x.gb,0,none⟩) x.b.bs.length x.cb,.slice (some ⟨x.gl,0,none⟩) x.b.ls.length x.cl,.slice (some ⟨x.gt,0,none⟩) x.b.ts.length x.ct,.int .i64 x.b.lot] 44)).alloc (.cells #[] 3)=w0 at *
 go_loopw [7,8] (fun l j wr=>∃(p:List Int) (g1 c1 k:Nat),l= .slice (some ⟨g1,0,none⟩) p.length c1∧j= .int .i64 k∧k≤x.b.ts.length∧p.length≤k∧Hid (p=openT lo hi (x.b.ts.take k))∧Hid (0<k→Ok x.b)∧Hid (Ints.Own wr (w.heap.size+1) g1 p.length c1 p)∧Hid (St w wr x)) (fun _ j _=>x.b.ts.length-(intOf j).toNat)
 case atStart=>exact⟨[],w.heap.size+1,0,0,rfl,rfl,by omega,by simp,zh rfl,zh (fun e=>absurd e (by omega)),O0,S0⟩
 case round=>
  clear O0 S0
  obtain⟨p,g1,c1,k,rfl,rfl,hk,pl,HP,HO,H1,HS⟩:=hrel
  obtain⟨c0,c1',c2,c3,c4,c5⟩:=(zu HS).c
  by_cases t:k<x.b.ts.length
  ·go_wp2_with fail
   refine(SBooksOk.sBooksOk _ x b0 (zu HS).r (zu H0)).mono ?_
   rintro e w2 ⟨rfl,bb⟩
   have S2:=zh ((zu HS).step bb)
   have O2:=zh ((zu H1).below bb (zu H1).lt.2)
   have B2:=zh (zu S2).b
   clear bb HS H1 c0 c1' c2 c3 c4 c5
   obtain⟨c0,c1',c2,c3,c4,c5⟩:=(zu S2).c
   cases b0
   ·have N:=zh (show IsOpens x.b lo hi p from by
     have k0:k=0:=Nat.eq_zero_of_not_pos (fun e=>(zu H0).no ((zu HO) e))
     subst k0
     exact .inr ⟨(zu H0).no,zu HP⟩)
    clear HP HO
    go_wp2
    go_ret
    exact⟨p,g1,c1,zu N,by omega,rfl,(zu O2).mono (by omega),zu B2⟩
   ·obtain⟨d0,d1,d2,d3,d4,d5,d6,d7⟩:=((zu S2).r.rt k t)
    have NP:=zh (openT_next (ps:=x.b.ts) (k:=k) lo hi t)
    rw[←zu HP] at NP
    have sz:=(zu S2).s
    have S3:=zh ((zu S2).step (one_more w2 (.cells #[.int .i64 (el8 x.b.ts k).1,.int .i64 (el8 x.b.ts k).2.1,.int .i64 (el8 x.b.ts k).2.2.1,.int .i64 (el8 x.b.ts k).2.2.2.1,.int .i64 (el8 x.b.ts k).2.2.2.2.1,.int .i64 (el8 x.b.ts k).2.2.2.2.2.1,.int .i64 (el8 x.b.ts k).2.2.2.2.2.2.1,.int .i64 (el8 x.b.ts k).2.2.2.2.2.2.2] 82)))
    have O3:=zh (Shorts.own_alloc (zu O2) (.cells #[.int .i64 (el8 x.b.ts k).1,.int .i64 (el8 x.b.ts k).2.1,.int .i64 (el8 x.b.ts k).2.2.1,.int .i64 (el8 x.b.ts k).2.2.2.1,.int .i64 (el8 x.b.ts k).2.2.2.2.1,.int .i64 (el8 x.b.ts k).2.2.2.2.2.1,.int .i64 (el8 x.b.ts k).2.2.2.2.2.2.1,.int .i64 (el8 x.b.ts k).2.2.2.2.2.2.2] 82))
    have YES:=zh (zu H0).yes
    generalize el8 x.b.ts k=q at *
    obtain⟨q0,q1,q2,q3,q4,q5,q6,q7⟩:=q
    clear HP
    by_cases own:q7=1
    ·have ob:(q7==1)=true:=by simpa using own
     obtain⟨b1,h1⟩:=says_of (lo≤q0∧q0≤hi)
     have HI:=zh h1
     have OWN:=zh own
     clear own h1
     go_wp2_with fail
     refine(SOk5.sIn q0 lo hi b1 _ (zu HI)).mono ?_
     rintro e v3 ⟨rfl,rfl⟩
     have e0:(w2.alloc (.cells #[.int .i64 q0,.int .i64 q1,.int .i64 q2,.int .i64 q3,.int .i64 q4,.int .i64 q5,.int .i64 q6,.int .i64 q7] 82)).cell? ⟨w2.heap.size,0,none⟩=some (.int .i64 q0):=by simp
     generalize hw3:w2.alloc (.cells #[.int .i64 q0,.int .i64 q1,.int .i64 q2,.int .i64 q3,.int .i64 q4,.int .i64 q5,.int .i64 q6,.int .i64 q7] 82)=w3 at *
     have HW:=zh hw3
     clear hw3
     cases b1
     ·have NP1:Hid (openT lo hi (x.b.ts.take (k+1))=p):=zh (by rw[zu NP,if_neg (fun e=>(zu HI).no e.2),List.append_nil])
      clear NP
      go_wp2
      go_roundw
      case rel=>exact⟨p,g1,c1,k+1,rfl,by go_num,by omega,by omega,zh (zu NP1).symm,zh (fun _=>zu YES),O3,S3⟩
      case measure=>simp[intOf];omega
     ·have NP1:Hid (openT lo hi (x.b.ts.take (k+1))=p++[q0]):=zh (by rw[zu NP,if_pos ⟨zu OWN,(zu HI).yes⟩])
      clear NP
      have bs:=(zu S3).b.size
      have s3:=(zu S3).s
      go_wp2_with (first|(at_builtin;refine Shorts.wp_appI _ rfl _ _ rfl (w.heap.size+1) g1 p.length c1 p w3.heap.size q0 rfl rfl (Shorts.own_alloc (zu O3) _) (by simp) (by omega) (by simp;omega) ?_)|go_in)
      intro g5 c5 w5 o5 gr5 loc5
      have O5:=zh o5
      have S5:=zh (show St w w5 x from by
       have S4:=(zu S3).step (one_more w3 (.cells #[.int .i64 q0] 3))
       have g1l:=(zu O3).lt.1
       have n0:some w.heap.size≠some g1:=fun e=>by injection e;omega
       exact⟨(zu S0R).below (S4.b.grown gr5 S4.b.size (fun j e=>by injection e;omega)),⟨gr5.cell S4.c.c0 n0,gr5.cell S4.c.c1 n0,gr5.cell S4.c.c2 n0,gr5.cell S4.c.c3 n0,gr5.cell S4.c.c4 n0,gr5.cell S4.c.c5 n0⟩,S4.b.grown gr5 S4.b.size (fun j e=>by injection e;omega),Nat.lt_of_lt_of_le S4.s gr5.size⟩)
      clear o5 gr5 loc5
      go_wp2
      go_roundw
      case rel=>exact⟨p++[q0],g5,c5,k+1,by rw[show(p++[q0]).length=p.length+1 by simp],by go_num,by omega,by simp;omega,zh (zu NP1).symm,zh (fun _=>zu YES),zh (by rw[show(p++[q0]).length=p.length+1 by simp];exact zu O5),S5⟩
      case measure=>simp[intOf];omega
    ·have NP1:Hid (openT lo hi (x.b.ts.take (k+1))=p):=zh (by rw[zu NP,if_neg (fun e=>own e.1),List.append_nil])
     have ob:(q7==1)=false:=by simpa using own
     clear NP own
     go_wp2
     go_roundw
     case rel=>exact⟨p,g1,c1,k+1,rfl,by go_num,by omega,by omega,zh (zu NP1).symm,zh (fun _=>zu YES),O3,S3⟩
     case measure=>simp[intOf];omega
  ·obtain rfl:k=x.b.ts.length:=by omega
   have N:=zh (show IsOpens x.b lo hi p from by
    have e:p=openT lo hi x.b.ts:=by rw[zu HP,List.take_of_length_le (by omega)]
    cases b0
    ·have k0:x.b.ts.length=0:=Nat.eq_zero_of_not_pos (fun e=>(zu H0).no ((zu HO) e))
     exact .inr ⟨(zu H0).no,by rw[e,List.eq_nil_of_length_eq_zero k0];rfl⟩
    ·exact .inl ⟨(zu H0).yes,e⟩)
   have B2:=zh (zu HS).b
   clear HP HO
   go_wp2
   go_ret
   exact⟨p,g1,c1,zu N,by omega,rfl,(zu H1).mono (by omega),zu B2⟩
end STell
end Go.Proofs.YtcjgepkdpkhljaaGreat
