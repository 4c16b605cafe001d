/- Lemmas. -/
import Derived.Test.YtcjgepkdpkhljaaGreatQG6
import Derived.Test.YtcjgepkdpkhljaaGreatQG12
open Go.ChangeShapes Go.WideShapes Go.ChangeAt Go.RowKit
set_option linter.unusedVariables false
set_option linter.unusedSimpArgs false
set_option maxRecDepth 100000
set_option maxHeartbeats 32000000
namespace Go.Proofs.YtcjgepkdpkhljaaGreat
namespace SCopy
open BMem Bks ILists Copy
open BHelp (row_block row_store)
open IBalsFit (one_more)
theorem wpl_append{P:Program}{ops:Array Oper}{rest:List Oper}{o:Oper}{a:Act}{u w':World}{Q:Exit→Act→World→Prop}(hgd:o.guard=none)(s x:Operand)(T:TypeId)(ho:o.op= .call {callee:= .builtin .append,args:= #[s,x],argTypes:= #[T,T]}){vs vx v':Value}(hs:a.eval s=vs)(hx:a.eval x=vx)
  (hr:(Builtin.append_ #[T,T] o.type #[vs,vx]).run P u= .ok v' w')(h:wpList P ops Q rest (a.put o.dst v') w'):wpList P ops Q (o::rest) a u:=
 wpList_plain hgd fun K hK=>wpo_append s x T ho hs hx hr (hK _ _ h)
theorem empty_made(W:World)(base:Nat)(e:TypeId)(size g:Nat)(hg:g=W.heap.size)(hb:base≤g):(W.alloc (.cells #[] e)).ownsRow base e size (.slice (some ⟨g,0,none⟩) 0 0) 0 []:=by
 subst hg
 exact World.ownsRow_made W #[] 0 hb (by unfold maxLen;omega) (by simp)
theorem row_kept{w w':World}{base:Nat}{e:TypeId}{size g n cap g0:Nat}{xs:List Value}(h:w.ownsRow base e size (.slice (some ⟨g,0,none⟩) n cap) n xs)(k:w.grownBy w' (some g0))(ne:g≠g0):w'.ownsRow base e size (.slice (some ⟨g,0,none⟩) n cap) n xs:=
 h.kept k (Or.inr (fun e=>ne (by simpa[Value.ownBlock] using e)))
structure TC(w W:World)(x:Bx)(v0 v1 v2 v3 v4 v5:Value):Prop where
 b:Below w.heap.size w W
 c:Cl W w.heap.size x
 o:Box W w.heap.size (w.heap.size+1+1) v0 v1 v2 v3 v4 v5
 r:Box W w.heap.size (w.heap.size+1) (.slice none 0 0) (.slice none 0 0) (.slice none 0 0) (.slice none 0 0) (.slice none 0 0) (.int .i64 0)
section
variable {w W W':World} {x:Bx} {v0 v1 v2 v3 v4 v5:Value}
theorem TC.call(h:TC w W x v0 v1 v2 v3 v4 v5)(k:Below W.heap.size W W'):TC w W' x v0 v1 v2 v3 v4 v5:=by
 have l:=h.o.lt
 exact⟨h.b.trans (k.mono h.b.size),h.c.below k (by omega),h.o.below k (by omega),h.r.below k (by omega)⟩
theorem TC.grown{g:Nat}(h:TC w W x v0 v1 v2 v3 v4 v5)(k:W.grownBy W' (some g))(hg:w.heap.size+3≤g):TC w W' x v0 v1 v2 v3 v4 v5:=by
 have n0:some w.heap.size≠some g:=fun e=>by injection e;omega
 exact⟨h.b.grown k h.b.size (fun j e=>by injection e;omega),⟨k.cell h.c.c0 n0,k.cell h.c.c1 n0,k.cell h.c.c2 n0,k.cell h.c.c3 n0,k.cell h.c.c4 n0,k.cell h.c.c5 n0⟩,h.o.kept k (fun e=>by injection e;omega),h.r.kept k (fun e=>by injection e;omega)⟩
theorem TC.set0(h:TC w W x v0 v1 v2 v3 v4 v5)(u:Value):TC w (W.setCell ⟨w.heap.size+1+1,0,none⟩ u) x u v1 v2 v3 v4 v5:=by
 obtain⟨b,g⟩:=h.o.set0 u
 have n0:some w.heap.size≠some (w.heap.size+1+1):=fun e=>by injection e;omega
 exact⟨h.b.setCell (by simp;omega) u,⟨g.cell h.c.c0 n0,g.cell h.c.c1 n0,g.cell h.c.c2 n0,g.cell h.c.c3 n0,g.cell h.c.c4 n0,g.cell h.c.c5 n0⟩,b,h.r.kept g (fun e=>by injection e;omega)⟩
theorem TC.set1(h:TC w W x v0 v1 v2 v3 v4 v5)(u:Value):TC w (W.setCell ⟨w.heap.size+1+1,1,none⟩ u) x v0 u v2 v3 v4 v5:=by
 obtain⟨b,g⟩:=h.o.set1 u
 have n0:some w.heap.size≠some (w.heap.size+1+1):=fun e=>by injection e;omega
 exact⟨h.b.setCell (by simp;omega) u,⟨g.cell h.c.c0 n0,g.cell h.c.c1 n0,g.cell h.c.c2 n0,g.cell h.c.c3 n0,g.cell h.c.c4 n0,g.cell h.c.c5 n0⟩,b,h.r.kept g (fun e=>by injection e;omega)⟩
theorem TC.set2(h:TC w W x v0 v1 v2 v3 v4 v5)(u:Value):TC w (W.setCell ⟨w.heap.size+1+1,2,none⟩ u) x v0 v1 u v3 v4 v5:=by
 obtain⟨b,g⟩:=h.o.set2 u
 have n0:some w.heap.size≠some (w.heap.size+1+1):=fun e=>by injection e;omega
 exact⟨h.b.setCell (by simp;omega) u,⟨g.cell h.c.c0 n0,g.cell h.c.c1 n0,g.cell h.c.c2 n0,g.cell h.c.c3 n0,g.cell h.c.c4 n0,g.cell h.c.c5 n0⟩,b,h.r.kept g (fun e=>by injection e;omega)⟩
theorem TC.set3(h:TC w W x v0 v1 v2 v3 v4 v5)(u:Value):TC w (W.setCell ⟨w.heap.size+1+1,3,none⟩ u) x v0 v1 v2 u v4 v5:=by
 obtain⟨b,g⟩:=h.o.set3 u
 have n0:some w.heap.size≠some (w.heap.size+1+1):=fun e=>by injection e;omega
 exact⟨h.b.setCell (by simp;omega) u,⟨g.cell h.c.c0 n0,g.cell h.c.c1 n0,g.cell h.c.c2 n0,g.cell h.c.c3 n0,g.cell h.c.c4 n0,g.cell h.c.c5 n0⟩,b,h.r.kept g (fun e=>by injection e;omega)⟩
theorem TC.set4(h:TC w W x v0 v1 v2 v3 v4 v5)(u:Value):TC w (W.setCell ⟨w.heap.size+1+1,4,none⟩ u) x v0 v1 v2 v3 u v5:=by
 obtain⟨b,g⟩:=h.o.set4 u
 have n0:some w.heap.size≠some (w.heap.size+1+1):=fun e=>by injection e;omega
 exact⟨h.b.setCell (by simp;omega) u,⟨g.cell h.c.c0 n0,g.cell h.c.c1 n0,g.cell h.c.c2 n0,g.cell h.c.c3 n0,g.cell h.c.c4 n0,g.cell h.c.c5 n0⟩,b,h.r.kept g (fun e=>by injection e;omega)⟩
end
theorem sCopy(w:World)(x:Bx)(h:Rd w x):
  Calls Tryz.prog 44 #[.agg #[.slice (some ⟨x.ga,0,none⟩) x.b.ac.length x.ca,.slice (some ⟨x.gi,0,none⟩) x.b.ic.length x.ci,.slice (some ⟨x.gb,0,none⟩) x.b.bs.length x.cb,.slice (some ⟨x.gl,0,none⟩) x.b.ls.length x.cl,.slice (some ⟨x.gt,0,none⟩) x.b.ts.length x.ct,.int .i64 x.b.lot]] w fun e w'=>∃z:Bx,z.b=x.b∧e= .returned (.agg #[.slice (some ⟨z.ga,0,none⟩) z.b.ac.length z.ca,.slice (some ⟨z.gi,0,none⟩) z.b.ic.length z.ci,.slice (some ⟨z.gb,0,none⟩) z.b.bs.length z.cb,.slice (some ⟨z.gl,0,none⟩) z.b.ls.length z.cl,.slice (some ⟨z.gt,0,none⟩) z.b.ts.length z.ct,.int .i64 z.b.lot])∧Ow w' w.heap.size z∧Below w.heap.size w w':=by
 have H:=zh h
 have na:=h.na
 have ni:=h.ni
 have nb:=h.nb
 have nl:=h.nl
 have nt:=h.nt
 have T0:=zh (show TC w (((w.alloc (.cells #[.slice (some ⟨x.ga,0,none⟩) x.b.ac.length x.ca,.slice (some ⟨x.gi,0,none⟩) x.b.ic.length x.ci,.slice (some ⟨x.gb,0,none⟩) x.b.bs.length x.cb,.slice (some ⟨x.gl,0,none⟩) x.b.ls.length x.cl,.slice (some ⟨x.gt,0,none⟩) x.b.ts.length x.ct,.int .i64 x.b.lot] 44)).alloc (.cells #[.slice none 0 0,.slice none 0 0,.slice none 0 0,.slice none 0 0,.slice none 0 0,.int .i64 0] 44)).alloc (.cells #[.slice none 0 0,.slice none 0 0,.slice none 0 0,.slice none 0 0,.slice none 0 0,.int .i64 x.b.lot] 44)) x (.slice none 0 0) (.slice none 0 0) (.slice none 0 0) (.slice none 0 0) (.slice none 0 0) (.int .i64 x.b.lot) from by
  have b2:Below (w.alloc (.cells #[.slice (some ⟨x.ga,0,none⟩) x.b.ac.length x.ca,.slice (some ⟨x.gi,0,none⟩) x.b.ic.length x.ci,.slice (some ⟨x.gb,0,none⟩) x.b.bs.length x.cb,.slice (some ⟨x.gl,0,none⟩) x.b.ls.length x.cl,.slice (some ⟨x.gt,0,none⟩) x.b.ts.length x.ct,.int .i64 x.b.lot] 44)).heap.size (w.alloc (.cells #[.slice (some ⟨x.ga,0,none⟩) x.b.ac.length x.ca,.slice (some ⟨x.gi,0,none⟩) x.b.ic.length x.ci,.slice (some ⟨x.gb,0,none⟩) x.b.bs.length x.cb,.slice (some ⟨x.gl,0,none⟩) x.b.ls.length x.cl,.slice (some ⟨x.gt,0,none⟩) x.b.ts.length x.ct,.int .i64 x.b.lot] 44)) (((w.alloc (.cells #[.slice (some ⟨x.ga,0,none⟩) x.b.ac.length x.ca,.slice (some ⟨x.gi,0,none⟩) x.b.ic.length x.ci,.slice (some ⟨x.gb,0,none⟩) x.b.bs.length x.cb,.slice (some ⟨x.gl,0,none⟩) x.b.ls.length x.cl,.slice (some ⟨x.gt,0,none⟩) x.b.ts.length x.ct,.int .i64 x.b.lot] 44)).alloc (.cells #[.slice none 0 0,.slice none 0 0,.slice none 0 0,.slice none 0 0,.slice none 0 0,.int .i64 0] 44)).alloc (.cells #[.slice none 0 0,.slice none 0 0,.slice none 0 0,.slice none 0 0,.slice none 0 0,.int .i64 x.b.lot] 44)):=((Below.refl _ _).alloc (Nat.le_refl _) _).alloc (by simp) _
  exact⟨((Below.refl w.heap.size w).alloc (Nat.le_refl _) _).trans (b2.mono (by simp)),(boxed w x 44).below b2 (by simp),Box.made _ _ _ _ _ _ (by simp;omega) (by simp),(Box.made (w:=w.alloc (.cells #[.slice (some ⟨x.ga,0,none⟩) x.b.ac.length x.ca,.slice (some ⟨x.gi,0,none⟩) x.b.ic.length x.ci,.slice (some ⟨x.gb,0,none⟩) x.b.bs.length x.cb,.slice (some ⟨x.gl,0,none⟩) x.b.ls.length x.cl,.slice (some ⟨x.gt,0,none⟩) x.b.ts.length x.ct,.int .i64 x.b.lot] 44)) (g:=w.heap.size+1) _ _ _ _ _ _ (by simp) (by simp)).below (one_more _ _) (by simp)⟩)
 clear h
 have A0:=zh ((zu T0).call (one_more _ (.cells #[] 112)))
 have z0:w.heap.size+3≤w.heap.size+1+1+1:=by have:=(zu T0).o.lt;simp at this⊢;try omega
 obtain⟨g0,c0',w1,hr0,ow0,gr0,_⟩:=copyAccount ((((w.alloc (.cells #[.slice (some ⟨x.ga,0,none⟩) x.b.ac.length x.ca,.slice (some ⟨x.gi,0,none⟩) x.b.ic.length x.ci,.slice (some ⟨x.gb,0,none⟩) x.b.bs.length x.cb,.slice (some ⟨x.gl,0,none⟩) x.b.ls.length x.cl,.slice (some ⟨x.gt,0,none⟩) x.b.ts.length x.ct,.int .i64 x.b.lot] 44)).alloc (.cells #[.slice none 0 0,.slice none 0 0,.slice none 0 0,.slice none 0 0,.slice none 0 0,.int .i64 0] 44)).alloc (.cells #[.slice none 0 0,.slice none 0 0,.slice none 0 0,.slice none 0 0,.slice none 0 0,.int .i64 x.b.lot] 44)).alloc (.cells #[] 112)) (w.heap.size+3) (w.heap.size+1+1+1) 0 (empty_made (((w.alloc (.cells #[.slice (some ⟨x.ga,0,none⟩) x.b.ac.length x.ca,.slice (some ⟨x.gi,0,none⟩) x.b.ic.length x.ci,.slice (some ⟨x.gb,0,none⟩) x.b.bs.length x.cb,.slice (some ⟨x.gl,0,none⟩) x.b.ls.length x.cl,.slice (some ⟨x.gt,0,none⟩) x.b.ts.length x.ct,.int .i64 x.b.lot] 44)).alloc (.cells #[.slice none 0 0,.slice none 0 0,.slice none 0 0,.slice none 0 0,.slice none 0 0,.int .i64 0] 44)).alloc (.cells #[.slice none 0 0,.slice none 0 0,.slice none 0 0,.slice none 0 0,.slice none 0 0,.int .i64 x.b.lot] 44)) _ _ _ _ (by simp) z0) 38 x.ga x.ca x.b.ac ((zu H).below (zu A0).b).ra na (by have:=(zu A0).o.lt;omega)
 have G0:=zh ((zu A0).grown gr0 z0)
 have O0:=zh (show Pairs.Own 112 w1 (w.heap.size+3) g0 x.b.ac.length c0' x.b.ac from ow0)
 have T1:=zh ((zu G0).set0 (.slice (some ⟨g0,0,none⟩) x.b.ac.length c0'))
 have p0:=(zu G0).o.c0
 have f0:=(zu G0).o.free 0
 have A1:=zh ((zu T1).call (one_more _ (.cells #[] 113)))
 have z1:w.heap.size+3≤w1.heap.size:=by have:=(zu T1).o.lt;simp[World.setCell] at this⊢;try omega
 obtain⟨g1,c1',w2,hr1,ow1,gr1,_⟩:=copyInstr ((w1.setCell ⟨w.heap.size+1+1,0,none⟩ (.slice (some ⟨g0,0,none⟩) x.b.ac.length c0')).alloc (.cells #[] 113)) (w.heap.size+3) (w1.heap.size) 0 (empty_made (w1.setCell ⟨w.heap.size+1+1,0,none⟩ (.slice (some ⟨g0,0,none⟩) x.b.ac.length c0')) _ _ _ _ (by simp[World.setCell]) z1) 39 x.gi x.ci x.b.ic ((zu H).below (zu A1).b).ri ni (by have:=(zu A1).o.lt;omega)
 have G1:=zh ((zu A1).grown gr1 z1)
 have O1:=zh (show Pairs.Own 113 w2 (w.heap.size+3) g1 x.b.ic.length c1' x.b.ic from ow1)
 replace O0:=zh (show Pairs.Own 112 w2 (w.heap.size+3) g0 x.b.ac.length c0' x.b.ac from row_kept (World.ownsRow.alloc (row_store (zu O0) (a:=⟨w.heap.size+1+1,0,none⟩) (by simp) (.slice (some ⟨g0,0,none⟩) x.b.ac.length c0')) _) gr1 (by have h1:=World.ownsRow.lt (zu O0) g0 rfl;omega))
 have T2:=zh ((zu G1).set1 (.slice (some ⟨g1,0,none⟩) x.b.ic.length c1'))
 have p1:=(zu G1).o.c1
 have f1:=(zu G1).o.free 1
 have s1:=(zu A1).c.c1
 have A2:=zh ((zu T2).call (one_more _ (.cells #[] 184)))
 have z2:w.heap.size+3≤w2.heap.size:=by have:=(zu T2).o.lt;simp[World.setCell] at this⊢;try omega
 obtain⟨g2,c2',w3,hr2,ow2,gr2,_⟩:=copyBal ((w2.setCell ⟨w.heap.size+1+1,1,none⟩ (.slice (some ⟨g1,0,none⟩) x.b.ic.length c1')).alloc (.cells #[] 184)) (w.heap.size+3) (w2.heap.size) 0 (empty_made (w2.setCell ⟨w.heap.size+1+1,1,none⟩ (.slice (some ⟨g1,0,none⟩) x.b.ic.length c1')) _ _ _ _ (by simp[World.setCell]) z2) 40 x.gb x.cb x.b.bs ((zu H).below (zu A2).b).rb nb (by have:=(zu A2).o.lt;omega)
 have G2:=zh ((zu A2).grown gr2 z2)
 have O2:=zh (show Triples.Own3 184 w3 (w.heap.size+3) g2 x.b.bs.length c2' x.b.bs from ow2)
 replace O0:=zh (show Pairs.Own 112 w3 (w.heap.size+3) g0 x.b.ac.length c0' x.b.ac from row_kept (World.ownsRow.alloc (row_store (zu O0) (a:=⟨w.heap.size+1+1,1,none⟩) (by simp) (.slice (some ⟨g1,0,none⟩) x.b.ic.length c1')) _) gr2 (by have h1:=World.ownsRow.lt (zu O0) g0 rfl;omega))
 replace O1:=zh (show Pairs.Own 113 w3 (w.heap.size+3) g1 x.b.ic.length c1' x.b.ic from row_kept (World.ownsRow.alloc (row_store (zu O1) (a:=⟨w.heap.size+1+1,1,none⟩) (by simp) (.slice (some ⟨g1,0,none⟩) x.b.ic.length c1')) _) gr2 (by have h1:=World.ownsRow.lt (zu O1) g1 rfl;omega))
 have T3:=zh ((zu G2).set2 (.slice (some ⟨g2,0,none⟩) x.b.bs.length c2'))
 have p2:=(zu G2).o.c2
 have f2:=(zu G2).o.free 2
 have s2:=(zu A2).c.c2
 have A3:=zh ((zu T3).call (one_more _ (.cells #[] 188)))
 have z3:w.heap.size+3≤w3.heap.size:=by have:=(zu T3).o.lt;simp[World.setCell] at this⊢;try omega
 obtain⟨g3,c3',w4,hr3,ow3,gr3,_⟩:=copyLot ((w3.setCell ⟨w.heap.size+1+1,2,none⟩ (.slice (some ⟨g2,0,none⟩) x.b.bs.length c2')).alloc (.cells #[] 188)) (w.heap.size+3) (w3.heap.size) 0 (empty_made (w3.setCell ⟨w.heap.size+1+1,2,none⟩ (.slice (some ⟨g2,0,none⟩) x.b.bs.length c2')) _ _ _ _ (by simp[World.setCell]) z3) 41 x.gl x.cl x.b.ls ((zu H).below (zu A3).b).rl nl (by have:=(zu A3).o.lt;omega)
 have G3:=zh ((zu A3).grown gr3 z3)
 have O3:=zh (show Tup5.Own5 188 w4 (w.heap.size+3) g3 x.b.ls.length c3' x.b.ls from ow3)
 replace O0:=zh (show Pairs.Own 112 w4 (w.heap.size+3) g0 x.b.ac.length c0' x.b.ac from row_kept (World.ownsRow.alloc (row_store (zu O0) (a:=⟨w.heap.size+1+1,2,none⟩) (by simp) (.slice (some ⟨g2,0,none⟩) x.b.bs.length c2')) _) gr3 (by have h1:=World.ownsRow.lt (zu O0) g0 rfl;omega))
 replace O1:=zh (show Pairs.Own 113 w4 (w.heap.size+3) g1 x.b.ic.length c1' x.b.ic from row_kept (World.ownsRow.alloc (row_store (zu O1) (a:=⟨w.heap.size+1+1,2,none⟩) (by simp) (.slice (some ⟨g2,0,none⟩) x.b.bs.length c2')) _) gr3 (by have h1:=World.ownsRow.lt (zu O1) g1 rfl;omega))
 replace O2:=zh (show Triples.Own3 184 w4 (w.heap.size+3) g2 x.b.bs.length c2' x.b.bs from row_kept (World.ownsRow.alloc (row_store (zu O2) (a:=⟨w.heap.size+1+1,2,none⟩) (by simp) (.slice (some ⟨g2,0,none⟩) x.b.bs.length c2')) _) gr3 (by have h1:=World.ownsRow.lt (zu O2) g2 rfl;omega))
 have T4:=zh ((zu G3).set3 (.slice (some ⟨g3,0,none⟩) x.b.ls.length c3'))
 have p3:=(zu G3).o.c3
 have f3:=(zu G3).o.free 3
 have s3:=(zu A3).c.c3
 have A4:=zh ((zu T4).call (one_more _ (.cells #[] 82)))
 have z4:w.heap.size+3≤w4.heap.size:=by have:=(zu T4).o.lt;simp[World.setCell] at this⊢;try omega
 obtain⟨g4,c4',w5,hr4,ow4,gr4,_⟩:=copyTrade ((w4.setCell ⟨w.heap.size+1+1,3,none⟩ (.slice (some ⟨g3,0,none⟩) x.b.ls.length c3')).alloc (.cells #[] 82)) (w.heap.size+3) (w4.heap.size) 0 (empty_made (w4.setCell ⟨w.heap.size+1+1,3,none⟩ (.slice (some ⟨g3,0,none⟩) x.b.ls.length c3')) _ _ _ _ (by simp[World.setCell]) z4) 42 x.gt x.ct x.b.ts ((zu H).below (zu A4).b).rt nt (by have:=(zu A4).o.lt;omega)
 have G4:=zh ((zu A4).grown gr4 z4)
 have O4:=zh (show Tup8.Own8 82 w5 (w.heap.size+3) g4 x.b.ts.length c4' x.b.ts from ow4)
 replace O0:=zh (show Pairs.Own 112 w5 (w.heap.size+3) g0 x.b.ac.length c0' x.b.ac from row_kept (World.ownsRow.alloc (row_store (zu O0) (a:=⟨w.heap.size+1+1,3,none⟩) (by simp) (.slice (some ⟨g3,0,none⟩) x.b.ls.length c3')) _) gr4 (by have h1:=World.ownsRow.lt (zu O0) g0 rfl;omega))
 replace O1:=zh (show Pairs.Own 113 w5 (w.heap.size+3) g1 x.b.ic.length c1' x.b.ic from row_kept (World.ownsRow.alloc (row_store (zu O1) (a:=⟨w.heap.size+1+1,3,none⟩) (by simp) (.slice (some ⟨g3,0,none⟩) x.b.ls.length c3')) _) gr4 (by have h1:=World.ownsRow.lt (zu O1) g1 rfl;omega))
 replace O2:=zh (show Triples.Own3 184 w5 (w.heap.size+3) g2 x.b.bs.length c2' x.b.bs from row_kept (World.ownsRow.alloc (row_store (zu O2) (a:=⟨w.heap.size+1+1,3,none⟩) (by simp) (.slice (some ⟨g3,0,none⟩) x.b.ls.length c3')) _) gr4 (by have h1:=World.ownsRow.lt (zu O2) g2 rfl;omega))
 replace O3:=zh (show Tup5.Own5 188 w5 (w.heap.size+3) g3 x.b.ls.length c3' x.b.ls from row_kept (World.ownsRow.alloc (row_store (zu O3) (a:=⟨w.heap.size+1+1,3,none⟩) (by simp) (.slice (some ⟨g3,0,none⟩) x.b.ls.length c3')) _) gr4 (by have h1:=World.ownsRow.lt (zu O3) g3 rfl;omega))
 have T5:=zh ((zu G4).set4 (.slice (some ⟨g4,0,none⟩) x.b.ts.length c4'))
 have p4:=(zu G4).o.c4
 have f4:=(zu G4).o.free 4
 have s4:=(zu A4).c.c4
 clear p4
 have o0:=(zu G4).o.c0
 have r0:=(zu G4).r.c0
 have u0:=(zu G4).r.free 0
 have o1:=(zu G4).o.c1
 have r1:=(zu G4).r.c1
 have u1:=(zu G4).r.free 1
 have o2:=(zu G4).o.c2
 have r2:=(zu G4).r.c2
 have u2:=(zu G4).r.free 2
 have o3:=(zu G4).o.c3
 have r3:=(zu G4).r.c3
 have u3:=(zu G4).r.free 3
 have o4:=(zu G4).o.c4
 have r4:=(zu G4).r.c4
 have u4:=(zu G4).r.free 4
 have o5:=(zu G4).o.c5
 have r5:=(zu G4).r.c5
 have u5:=(zu G4).r.free 5
 have B5:=zh (zu T5).b
 clear gr0 gr1 gr2 gr3 gr4 ow0 ow1 ow2 ow3 ow4
 go_enter Tryz.func44,Tryz.ntmps44
 go_wp2_with (first|(at_builtin;refine wpl_append rfl (.tmp 7) (.tmp 9) 38 rfl rfl rfl hr0 ?_)|(at_builtin;refine wpl_append rfl (.tmp 12) (.tmp 14) 39 rfl rfl rfl hr1 ?_)|(at_builtin;refine wpl_append rfl (.tmp 17) (.tmp 19) 40 rfl rfl rfl hr2 ?_)|(at_builtin;refine wpl_append rfl (.tmp 22) (.tmp 24) 41 rfl rfl rfl hr3 ?_)|(at_builtin;refine wpl_append rfl (.tmp 27) (.tmp 29) 42 rfl rfl rfl hr4 ?_))
 refine bodyPost_ret (v:= .agg #[.slice (some ⟨g0,0,none⟩) x.b.ac.length c0',.slice (some ⟨g1,0,none⟩) x.b.ic.length c1',.slice (some ⟨g2,0,none⟩) x.b.bs.length c2',.slice (some ⟨g3,0,none⟩) x.b.ls.length c3',.slice (some ⟨g4,0,none⟩) x.b.ts.length c4',.int .i64 x.b.lot]) (by simp[results,Tryz.results44,go_sem,r0,r1,r2,r3,r4,r5]) rfl ⟨⟨g0,c0',g1,c1',g2,c2',g3,c3',g4,c4',x.b⟩,rfl,rfl,?_,?_⟩
 ·exact Ow.rebase (base:=w.heap.size+3) ⟨(row_store (row_store (row_store (row_store (row_store (row_store (row_store (zu O0) (a:=⟨w.heap.size+1+1,4,none⟩) (by simp) _) (a:=⟨w.heap.size+1,0,none⟩) (by simp) _) (a:=⟨w.heap.size+1,1,none⟩) (by simp) _) (a:=⟨w.heap.size+1,2,none⟩) (by simp) _) (a:=⟨w.heap.size+1,3,none⟩) (by simp) _) (a:=⟨w.heap.size+1,4,none⟩) (by simp) _) (a:=⟨w.heap.size+1,5,none⟩) (by simp) _),(row_store (row_store (row_store (row_store (row_store (row_store (row_store (zu O1) (a:=⟨w.heap.size+1+1,4,none⟩) (by simp) _) (a:=⟨w.heap.size+1,0,none⟩) (by simp) _) (a:=⟨w.heap.size+1,1,none⟩) (by simp) _) (a:=⟨w.heap.size+1,2,none⟩) (by simp) _) (a:=⟨w.heap.size+1,3,none⟩) (by simp) _) (a:=⟨w.heap.size+1,4,none⟩) (by simp) _) (a:=⟨w.heap.size+1,5,none⟩) (by simp) _),(row_store (row_store (row_store (row_store (row_store (row_store (row_store (zu O2) (a:=⟨w.heap.size+1+1,4,none⟩) (by simp) _) (a:=⟨w.heap.size+1,0,none⟩) (by simp) _) (a:=⟨w.heap.size+1,1,none⟩) (by simp) _) (a:=⟨w.heap.size+1,2,none⟩) (by simp) _) (a:=⟨w.heap.size+1,3,none⟩) (by simp) _) (a:=⟨w.heap.size+1,4,none⟩) (by simp) _) (a:=⟨w.heap.size+1,5,none⟩) (by simp) _),(row_store (row_store (row_store (row_store (row_store (row_store (row_store (zu O3) (a:=⟨w.heap.size+1+1,4,none⟩) (by simp) _) (a:=⟨w.heap.size+1,0,none⟩) (by simp) _) (a:=⟨w.heap.size+1,1,none⟩) (by simp) _) (a:=⟨w.heap.size+1,2,none⟩) (by simp) _) (a:=⟨w.heap.size+1,3,none⟩) (by simp) _) (a:=⟨w.heap.size+1,4,none⟩) (by simp) _) (a:=⟨w.heap.size+1,5,none⟩) (by simp) _),(row_store (row_store (row_store (row_store (row_store (row_store (row_store (zu O4) (a:=⟨w.heap.size+1+1,4,none⟩) (by simp) _) (a:=⟨w.heap.size+1,0,none⟩) (by simp) _) (a:=⟨w.heap.size+1,1,none⟩) (by simp) _) (a:=⟨w.heap.size+1,2,none⟩) (by simp) _) (a:=⟨w.heap.size+1,3,none⟩) (by simp) _) (a:=⟨w.heap.size+1,4,none⟩) (by simp) _) (a:=⟨w.heap.size+1,5,none⟩) (by simp) _)⟩ (by omega)
 ·exact(((((((zu B5).setCell (p:=⟨w.heap.size+1,0,none⟩) (by simp) _).setCell (p:=⟨w.heap.size+1,1,none⟩) (by simp) _).setCell (p:=⟨w.heap.size+1,2,none⟩) (by simp) _).setCell (p:=⟨w.heap.size+1,3,none⟩) (by simp) _).setCell (p:=⟨w.heap.size+1,4,none⟩) (by simp) _).setCell (p:=⟨w.heap.size+1,5,none⟩) (by simp) _)
end SCopy
namespace Shorts
open BMem Bks ILists
theorem own_of_row{w:World}{base n n':Nat}{v:Value}{vs:List Value}{xs:List Int}(h:w.ownsRow base 3 1 v n vs)(hn:n=n')(e:vs=xs.map (Value.int .i64))(hv:¬v= .slice none 0 0):
  ∃g c,v= .slice (some ⟨g,0,none⟩) n' c∧Ints.Own w base g n' c xs:=by
 subst hn e
 have h':=h
 rcases h.2 with⟨h1,_⟩|⟨g,c,cur,rfl,_⟩
 ·exact absurd h1 hv
 ·exact⟨g,c,rfl,h'⟩
theorem own_alloc{w:World}{base g n cap:Nat}{xs:List Int}(h:Ints.Own w base g n cap xs)(o:Obj):Ints.Own (w.alloc o) base g n cap xs:=World.ownsRow.alloc h o
theorem lit0(w:World)(base:Nat){g:Nat}(hb:base≤w.heap.size)(hg:g=w.heap.size):Ints.Own (w.alloc (.cells #[] 3)) base g 0 0 []:=by
 subst hg
 exact World.ownsRow_lit w #[] 0 hb (by decide) rfl
theorem wp_appI(u:World){ops:Array Oper}{rest:List Oper}{o:Oper}{a:Act}{Q:Exit→Act→World→Prop}(hgd:o.guard=none)(s x:Operand)
  (ho:o.op= .call {callee:= .builtin .append,args:= #[s,x],argTypes:= #[24,24]})(base g n cap:Nat)(xs:List Int)(vb:Nat)(y:Int)
  (hs:a.eval s= .slice (some ⟨g,0,none⟩) n cap)(hx:a.eval x= .slice (some ⟨vb,0,none⟩) 1 1)(hown:Ints.Own u base g n cap xs)(hv:u.cell? ⟨vb,0,none⟩=some (.int .i64 y))(hn:n≤1048576)(hb:base≤u.heap.size)
  (h:∀g' c' w',Ints.Own w' base g' (n+1) c' (xs++[y])→u.grownBy w' (some g)→(g'=g∨g'=u.heap.size)→wpList Tryz.prog ops Q rest (a.put o.dst (.slice (some ⟨g',0,none⟩) (n+1) c')) w'):wpList Tryz.prog ops Q (o::rest) a u:=by
 obtain⟨i0,hi,hz0,hz1,hz2⟩:=info_parts Ints.info3
 refine wpList_append_own_at u hgd s x 24 ho base 3 i0 (.int .i64 0) 1 8 Tryz.underlying24 hi hz0 hz1 hz2 rfl (by decide) _ n _ hs hown ⟨vb,0,none⟩ 1 1 [.int .i64 y] hx rfl (fun j v hj=>by
  cases j with
  |zero=>
   have e:v= .int .i64 y:=by simpa using hj.symm
   rw[e]
   simpa[Addr.add] using hv
  |succ j=>simp at hj) (by simp[Value.oneCell']) (by unfold maxLen;omega) (by omega) hb ?_
 intro v' w' own' gr' nil' loc'
 obtain⟨g',c',rfl,o'⟩:=own_of_row (n':=n+1) (xs:=xs++[y]) own' rfl (by simp) (by rw[nil'];simp)
 exact h g' c' w' o' gr' (by simpa[Value.ownBlock] using loc')
theorem at_pair(w:World)(a c i q:Int)(e:TypeId):Triples.At3 (w.alloc (.cells #[.int .i64 a,.int .i64 i,.int .i64 (-q),.int .i64 c,.int .i64 i,.int .i64 q] e)) w.heap.size (pairL a c i q):=by
 intro k hk
 have:k=0∨k=1:=by simp[pairL] at hk;omega
 rcases this with rfl|rfl
 ·unfold Triples.Holds3
  simp[pairL]
 ·unfold Triples.Holds3
  simp[pairL]
theorem sPair(w:World)(a c i q:Int)(q1:1≤q)(q2:q≤1000000000000000):
  Calls Tryz.prog 78 #[.int .i64 a,.int .i64 c,.int .i64 i,.int .i64 q] w fun e w'=>∃g,e= .returned (.slice (some ⟨g,0,none⟩) 2 2)∧g<w'.heap.size∧Triples.At3 w' g (pairL a c i q)∧Below w.heap.size w w':=by
 have A:=zh (at_pair w a c i q 181)
 go_enter Tryz.func78,Tryz.ntmps78
 go_wp2
 go_ret
 exact⟨w.heap.size,rfl,by simp,zu A,(Below.refl _ _).alloc (Nat.le_refl _) _⟩
theorem sShort(w:World)(x:Bx)(h:Rd w x):
  Calls Tryz.prog 99 #[.agg #[.slice (some ⟨x.ga,0,none⟩) x.b.ac.length x.ca,.slice (some ⟨x.gi,0,none⟩) x.b.ic.length x.ci,.slice (some ⟨x.gb,0,none⟩) x.b.bs.length x.cb,.slice (some ⟨x.gl,0,none⟩) x.b.ls.length x.cl,.slice (some ⟨x.gt,0,none⟩) x.b.ts.length x.ct,.int .i64 x.b.lot]] w fun e w'=>∃g c,e= .returned (.slice (some ⟨g,0,none⟩) (shortL x.b.ac).length c)∧Ints.Own w' w.heap.size g (shortL x.b.ac).length c (shortL x.b.ac)∧Below w.heap.size w w':=by
 have na:=h.na
 have la:=h.la
 have R0:=zh ((h.alloc (.cells #[.slice (some ⟨x.ga,0,none⟩) x.b.ac.length x.ca,.slice (some ⟨x.gi,0,none⟩) x.b.ic.length x.ci,.slice (some ⟨x.gb,0,none⟩) x.b.bs.length x.cb,.slice (some ⟨x.gl,0,none⟩) x.b.ls.length x.cl,.slice (some ⟨x.gt,0,none⟩) x.b.ts.length x.ct,.int .i64 x.b.lot] 44)).alloc (.cells #[] 3))
 have O0:=zh (lit0 (w.alloc (.cells #[.slice (some ⟨x.ga,0,none⟩) x.b.ac.length x.ca,.slice (some ⟨x.gi,0,none⟩) x.b.ic.length x.ci,.slice (some ⟨x.gb,0,none⟩) x.b.bs.length x.cb,.slice (some ⟨x.gl,0,none⟩) x.b.ls.length x.cl,.slice (some ⟨x.gt,0,none⟩) x.b.ts.length x.ct,.int .i64 x.b.lot] 44)) (w.heap.size+1) (g:=w.heap.size+1) (by simp) (by simp))
 have C0:=zh ((boxed w x 44).below (IBalsFit.one_more _ (.cells #[] 3)) (by simp))
 have B0:=zh (show Below w.heap.size w ((w.alloc (.cells #[.slice (some ⟨x.ga,0,none⟩) x.b.ac.length x.ca,.slice (some ⟨x.gi,0,none⟩) x.b.ic.length x.ci,.slice (some ⟨x.gb,0,none⟩) x.b.bs.length x.cb,.slice (some ⟨x.gl,0,none⟩) x.b.ls.length x.cl,.slice (some ⟨x.gt,0,none⟩) x.b.ts.length x.ct,.int .i64 x.b.lot] 44)).alloc (.cells #[] 3)) from((Below.refl _ _).alloc (Nat.le_refl _) _).alloc (by simp) _)
 have s0:((w.alloc (.cells #[.slice (some ⟨x.ga,0,none⟩) x.b.ac.length x.ca,.slice (some ⟨x.gi,0,none⟩) x.b.ic.length x.ci,.slice (some ⟨x.gb,0,none⟩) x.b.bs.length x.cb,.slice (some ⟨x.gl,0,none⟩) x.b.ls.length x.cl,.slice (some ⟨x.gt,0,none⟩) x.b.ts.length x.ct,.int .i64 x.b.lot] 44)).alloc (.cells #[] 3)).heap.size=w.heap.size+1+1:=by simp
 clear h
 go_enter Tryz.func99,Tryz.ntmps99
 go_wp2
 generalize (w.alloc (.cells #[.slice (some ⟨x.ga,0,none⟩) x.b.ac.length x.ca,.slice (some ⟨x.gi,0,none⟩) x.b.ic.length x.ci,.slice (some ⟨x.gb,0,none⟩) x.b.bs.length x.cb,.slice (some ⟨x.gl,0,none⟩) x.b.ls.length x.cl,.slice (some ⟨x.gt,0,none⟩) x.b.ts.length x.ct,.int .i64 x.b.lot] 44)).alloc (.cells #[] 3)=w0 at *
 go_loopw [3,4] (fun l j wr=>∃(p:List Int) (g1 c1 k:Nat),l= .slice (some ⟨g1,0,none⟩) p.length c1∧j= .int .i64 k∧k≤x.b.ac.length∧p.length≤k∧Hid (p=shortL (x.b.ac.take k))∧Hid (Ints.Own wr (w.heap.size+1) g1 p.length c1 p)∧Hid (Below (w.heap.size+1) w0 wr)) (fun _ j _=>x.b.ac.length-(intOf j).toNat)
 case atStart=>exact⟨[],w.heap.size+1,0,0,rfl,rfl,by omega,by simp,zh rfl,O0,zh (Below.refl _ _)⟩
 case round=>
  clear O0
  obtain⟨p,g1,c1,k,rfl,rfl,hk,pl,HP,H1,HB⟩:=hrel
  have bs:=(zu HB).size
  obtain⟨c0,_,_,_,_,_⟩:=(zu C0).below (zu HB) (by omega)
  by_cases t:k<x.b.ac.length
  ·obtain⟨e0,e1⟩:=(zu R0).ra.below (zu HB) (by omega) k t
   have NP:=zh (short_next (ps:=x.b.ac) (k:=k) t)
   rw[←zu HP] at NP
   obtain⟨no,hno⟩:∃no,Hid ((x.b.ac.getD k (0,0)).1=no):=⟨_,rfl⟩
   obtain⟨kd,hkd⟩:∃kd,Hid ((x.b.ac.getD k (0,0)).2=kd):=⟨_,rfl⟩
   rw[zu hno] at e0
   rw[zu hkd] at e1
   have NQ:=zh (show shortL (x.b.ac.take (k+1))=p++(if kd=1 then[] else[no]) from by
    first|(rw[zu NP,←zu hno,←zu hkd];done)|(rw[zu NP,←zu hno,←zu hkd];rfl))
   clear NP hno hkd
   by_cases own:kd=1
   ·have NP1:Hid (shortL (x.b.ac.take (k+1))=p):=zh (by rw[zu NQ,if_pos own,List.append_nil])
    clear NQ
    subst own
    go_wp2
    go_roundw
    case rel=>exact⟨p,g1,c1,k+1,rfl,by go_num,by omega,by omega,zh (zu NP1).symm,H1,HB⟩
    case measure=>simp[intOf];omega
   ·have NP1:Hid (shortL (x.b.ac.take (k+1))=p++[no]):=zh (by rw[zu NQ,if_neg own])
    have ob:(kd !=1)=true:=by simpa using own
    clear NQ own
    go_wp2_with (first|(at_builtin;refine wp_appI _ rfl _ _ rfl (w.heap.size+1) g1 p.length c1 p wr.heap.size no rfl rfl (own_alloc (zu H1) _) (by simp) (by omega) (by simp;omega) ?_)|go_in)
    intro g5 c5 w5 o5 gr5 loc5
    have O5:=zh o5
    have B5:=zh (((zu HB).alloc (by omega) (.cells #[.int .i64 no] 3)).grown gr5 (by simp;omega) (fun j hj=>by cases hj;exact(zu H1).lt.1))
    clear o5 gr5 loc5
    go_wp2
    go_roundw
    case rel=>exact⟨p++[no],g5,c5,k+1,by rw[show(p++[no]).length=p.length+1 by simp],by go_num,by omega,by simp;omega,zh (zu NP1).symm,zh (by rw[show(p++[no]).length=p.length+1 by simp];exact zu O5),B5⟩
    case measure=>simp[intOf];omega
  ·obtain rfl:k=x.b.ac.length:=by omega
   have EP:=zh (show p=shortL x.b.ac by rw[zu HP,List.take_of_length_le (by omega)])
   clear HP
   go_wp2
   go_ret
   rw[←zu EP]
   exact⟨g1,c1,rfl,(zu H1).mono (by omega),(zu B0).trans ((zu HB).mono (by omega))⟩
end Shorts
end Go.Proofs.YtcjgepkdpkhljaaGreat
