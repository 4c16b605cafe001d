/- Lemmas. -/
import Derived.Test.YtcjgepkdpkhljaaGreatQG28
open Go.ChangeShapes Go.WideShapes Go.ChangeAt Go.RowKit
set_option linter.unusedVariables false
set_option linter.unusedSimpArgs false
set_option maxRecDepth 100000
set_option maxHeartbeats 32000000
namespace Go.Proofs.YtcjgepkdpkhljaaGreat
namespace SRun12
open BMem Bks Ans WkB12 SApp12
open SIssue (off_box row_ne)
open BHelp (row_block)
def Cm(w:World)(cc:Nat)(v0 v1:Value):Prop:=
 ∃(k:Int) (g n c:Nat) (xs:List Int),v0= .int .i64 k∧v1= .slice (some ⟨g,0,none⟩) n c∧xs.length=n∧n≤7∧g<w.heap.size∧g≠cc∧Ints.At w g xs
def Cs(w:World)(cc:Nat)(vs:List Value):Prop:=∀i,i*2+1<vs.length→∃v0 v1,vs[i*2]?=some v0∧vs[i*2+1]?=some v1∧Cm w cc v0 v1
theorem infoR:(Tryz.prog.info? 75).map (fun i=>(i.zero,i.size,i.bytes))=some (some (.agg #[.int .i64 0,.int .i64 0]),2,16):=by kernel_rfl
theorem infoC:(Tryz.prog.info? 26).map (fun i=>(i.zero,i.size,i.bytes))=some (some (.agg #[.int .i64 0,.slice none 0 0]),2,32):=by kernel_rfl
theorem two_at(U:World)(a b:Value){t:TypeId}:∀j v,[a,b][j]?=some v→(U.alloc (.cells #[a,b] t)).cell? ⟨U.heap.size,j,none⟩=some v:=by
 intro j v hj
 match j,hj with
 |0,hj=>simp at hj;subst hj;simp
 |1,hj=>simp at hj;subst hj;simp
 |j+2,hj=>simp at hj
theorem wp_app2(u:World){ops:Array Oper}{rest:List Oper}{o:Oper}{a:Act}{Q:Exit→Act→World→Prop}(t e:TypeId)(z:Value)(by_:Nat)(hu:Tryz.prog.underlying t=some (.slice e))(hi:(Tryz.prog.info? e).map (fun i=>(i.zero,i.size,i.bytes))=some (some z,2,by_))(hz:z.cells.size=2)(hby:by_≤64)(hgd:o.guard=none)(s x:Operand)
  (ho:o.op= .call {callee:= .builtin .append,args:= #[s,x],argTypes:= #[t,t]})(base g n cap m:Nat)(vs ys:List Value)(vb c:Nat)
  (hs:a.eval s= .slice (some ⟨g,0,none⟩) n cap)(hx:a.eval x= .slice (some ⟨vb,0,none⟩) m c)(hown:u.ownsRow base e 2 (.slice (some ⟨g,0,none⟩) n cap) n vs)(hl:ys.length=m*2)(hv:∀j v,ys[j]?=some v→u.cell? ⟨vb,j,none⟩=some v)(h1:∀v∈ys,v.oneCell'=true)(hn:n+m≤1000000)(hb:base≤u.heap.size)
  (h:∀g' c' w',w'.ownsRow base e 2 (.slice (some ⟨g',0,none⟩) (n+m) c') (n+m) (vs++ys)→u.grownBy w' (some g)→(g'=g∨g'=u.heap.size)→wpList Tryz.prog ops Q rest (a.put o.dst (.slice (some ⟨g',0,none⟩) (n+m) c')) w'):wpList Tryz.prog ops Q (o::rest) a u:=by
 obtain⟨i0,hi,hz0,hz1,hz2⟩:=info_parts hi
 refine wpList_append_own_at u hgd s x t ho base e i0 z 2 by_ hu hi hz0 hz1 hz2 hz (by decide) _ n _ hs hown ⟨vb,0,none⟩ m c ys hx hl (fun j v hj=>by rw[Addr.add_lit,Nat.zero_add];exact hv j v hj) h1 (by unfold maxLen;omega) (by have:(n+m)*by_≤1000000*64:=Nat.mul_le_mul hn hby;omega) hb ?_
 intro v' w' own' gr' nil' loc'
 have hv':¬v'= .slice none 0 0:=by rw[nil'];simp
 have own2:=own'
 rcases own'.2 with⟨h1,_⟩|⟨g',c',cur,rfl,_⟩
 ·exact absurd h1 hv'
 ·exact h g' c' w' own2 gr' (by simpa[Value.ownBlock] using loc')
structure Cr(w W:World)(p7:Nat)(z:Bx)(gR cR i:Nat)(rv:List Value):Prop where
 b:Below w.heap.size w W
 o4:Box W w.heap.size (w.heap.size+1) (.slice none 0 0) (.slice none 0 0) (.slice none 0 0) (.slice none 0 0) (.slice none 0 0) (.int .i64 0)
 o7:Box W w.heap.size p7 (.slice (some ⟨z.ga,0,none⟩) z.b.ac.length z.ca) (.slice (some ⟨z.gi,0,none⟩) z.b.ic.length z.ci) (.slice (some ⟨z.gb,0,none⟩) z.b.bs.length z.cb) (.slice (some ⟨z.gl,0,none⟩) z.b.ls.length z.cl) (.slice (some ⟨z.gt,0,none⟩) z.b.ts.length z.ct) (.int .i64 z.b.lot)
 oz:Ow W w.heap.size z
 sm:Small z.b
 rr:W.ownsRow w.heap.size 75 2 (.slice (some ⟨gR,0,none⟩) i cR) i rv
 ne:p7≠w.heap.size+1
section
variable {w W W':World} {p7 gR cR i:Nat} {z:Bx} {rv:List Value}
theorem row_below{base g n cap:Nat}{e:TypeId}{m:Nat}{xs:List Value}(h:W.ownsRow base e m (.slice (some ⟨g,0,none⟩) n cap) n xs)(k:Below W.heap.size W W'):W'.ownsRow base e m (.slice (some ⟨g,0,none⟩) n cap) n xs:=
 row_block h (k.block g (World.ownsRow.lt h g rfl).2)
theorem Cr.step(h:Cr w W p7 z gR cR i rv)(k:Below W.heap.size W W'):Cr w W' p7 z gR cR i rv:=
 ⟨h.b.trans (k.mono h.b.size),h.o4.below k h.o4.lt.2,h.o7.below k h.o7.lt.2,h.oz.below k (Nat.le_refl _),h.sm,row_below h.rr k,h.ne⟩
theorem Cr.fin(h:Cr w W p7 z gR cR i rv):Box ((((((W.setCell ⟨w.heap.size+1,0,none⟩ (.slice (some ⟨z.ga,0,none⟩) z.b.ac.length z.ca)).setCell ⟨w.heap.size+1,1,none⟩ (.slice (some ⟨z.gi,0,none⟩) z.b.ic.length z.ci)).setCell ⟨w.heap.size+1,2,none⟩ (.slice (some ⟨z.gb,0,none⟩) z.b.bs.length z.cb)).setCell ⟨w.heap.size+1,3,none⟩ (.slice (some ⟨z.gl,0,none⟩) z.b.ls.length z.cl)).setCell ⟨w.heap.size+1,4,none⟩ (.slice (some ⟨z.gt,0,none⟩) z.b.ts.length z.ct)).setCell ⟨w.heap.size+1,5,none⟩ (.int .i64 z.b.lot)) w.heap.size (w.heap.size+1) (.slice (some ⟨z.ga,0,none⟩) z.b.ac.length z.ca) (.slice (some ⟨z.gi,0,none⟩) z.b.ic.length z.ci) (.slice (some ⟨z.gb,0,none⟩) z.b.bs.length z.cb) (.slice (some ⟨z.gl,0,none⟩) z.b.ls.length z.cl) (.slice (some ⟨z.gt,0,none⟩) z.b.ts.length z.ct) (.int .i64 z.b.lot)∧Ow ((((((W.setCell ⟨w.heap.size+1,0,none⟩ (.slice (some ⟨z.ga,0,none⟩) z.b.ac.length z.ca)).setCell ⟨w.heap.size+1,1,none⟩ (.slice (some ⟨z.gi,0,none⟩) z.b.ic.length z.ci)).setCell ⟨w.heap.size+1,2,none⟩ (.slice (some ⟨z.gb,0,none⟩) z.b.bs.length z.cb)).setCell ⟨w.heap.size+1,3,none⟩ (.slice (some ⟨z.gl,0,none⟩) z.b.ls.length z.cl)).setCell ⟨w.heap.size+1,4,none⟩ (.slice (some ⟨z.gt,0,none⟩) z.b.ts.length z.ct)).setCell ⟨w.heap.size+1,5,none⟩ (.int .i64 z.b.lot)) w.heap.size z∧Below w.heap.size w ((((((W.setCell ⟨w.heap.size+1,0,none⟩ (.slice (some ⟨z.ga,0,none⟩) z.b.ac.length z.ca)).setCell ⟨w.heap.size+1,1,none⟩ (.slice (some ⟨z.gi,0,none⟩) z.b.ic.length z.ci)).setCell ⟨w.heap.size+1,2,none⟩ (.slice (some ⟨z.gb,0,none⟩) z.b.bs.length z.cb)).setCell ⟨w.heap.size+1,3,none⟩ (.slice (some ⟨z.gl,0,none⟩) z.b.ls.length z.cl)).setCell ⟨w.heap.size+1,4,none⟩ (.slice (some ⟨z.gt,0,none⟩) z.b.ts.length z.ct)).setCell ⟨w.heap.size+1,5,none⟩ (.int .i64 z.b.lot)):=by
 obtain⟨o,q⟩:=box_six h.o4 (.slice (some ⟨z.ga,0,none⟩) z.b.ac.length z.ca) (.slice (some ⟨z.gi,0,none⟩) z.b.ic.length z.ci) (.slice (some ⟨z.gb,0,none⟩) z.b.bs.length z.cb) (.slice (some ⟨z.gl,0,none⟩) z.b.ls.length z.cl) (.slice (some ⟨z.gt,0,none⟩) z.b.ts.length z.ct) (.int .i64 z.b.lot)
 exact⟨o,ow_six h.oz (off_box h.oz h.o4) _ _ _ _ _ _,h.b.grown q h.b.size (fun j e=>by cases e;omega)⟩
end
section
variable {P:Program} {ops:Array Oper} {Q:Exit→Act→World→Prop} {md:Region.Mode} {S:World→Prop} {fuel:Nat} {listed:Array Bool} {a:Act} {w:World}
theorem tk(i:Nat){oi:Oper}(v:Value)(hi:ops[i]?=some oi)(hb:(Region.noSelect ops&&(Region.free md ops listed i&&(Region.ready md ops listed).contains i))=true)(hQ:∀c a w,Q (.panic c) (a.put oi.dst v) w→Q (.panic c) a w)(hw:Region.wanted oi (yielded ops a.tmps)=true)(hS:S w)(hy:∀w,S w→(execOp a.eval oi).run P w= .ok (.value v) w)(h:wpAnyH P md ops Q S fuel (listed.setIfInBounds i true) (a.put oi.dst v) w):wpAnyH P md ops Q S (fuel+1) listed a w:=by
 rw[Bool.and_eq_true,Bool.and_eq_true] at hb
 exact wpAnyH_take hi hb.1 hb.2.1 hb.2.2 hQ (.inl ⟨hw,hy⟩) hS h
end
theorem zA{α:Type}(l:List α)(i:Nat)(x:α):l.toArray.setIfInBounds i x=(l.set i x).toArray:=List.setIfInBounds_toArray ..
theorem zB{α:Type}(x y:α)(l:List α):(x::l).set 0 y=y::l:=rfl
theorem zC{α:Type}(x y:α)(l:List α)(n:Nat):(x::l).set (n+1) y=x::l.set n y:=rfl
theorem reg_rest{α:Type}{P:Program}{id:Nat}{ops:Array Oper}{K:Act→World→Prop}{Q':Exit→Act→World→Prop}{a:Act}{w:World}(f:Act→α→Act)(Fc:α→World→Prop)(h:∀x U,Fc x U→K (f a x) U)(hw:(Code.region id ops true).wp P (Exit.then (fun a' w'=>∃x,a'=f a x∧Fc x w') Q') a w):(Code.region id ops true).wp P (Exit.then K Q') a w:=
 Code.wp_mono (fun e a' w' hq=>by
  cases e
  case normal=>
   obtain⟨x,rfl,hx⟩:=hq
   exact h x w' hx
  all_goals exact hq) hw
def Fc(w:World)(p7:Nat)(z:Bx)(gR cR k:Nat)(rv:List Value)(x:Nat×Nat×BHelp.Ix×Int×Int)(U:World):Prop:=
 Hid (Cr w U p7 z gR cR k rv∧Box U w.heap.size x.1 (.slice x.2.2.1.aa x.2.2.1.b.ac.length x.2.2.1.ca) (.slice x.2.2.1.ai x.2.2.1.b.ic.length x.2.2.1.ci) (.slice x.2.2.1.ab x.2.2.1.b.bs.length x.2.2.1.cb) (.slice x.2.2.1.al x.2.2.1.b.ls.length x.2.2.1.cl) (.slice x.2.2.1.ats x.2.2.1.b.ts.length x.2.2.1.ct) (.int .i64 x.2.2.1.b.lot)∧R2 U w.heap.size x.2.1 (.int .i64 x.2.2.2.1) (.int .i64 x.2.2.2.2)∧(x.2.2.2.1≠0∨∃z':Bx,x.2.2.1=ofB z'∧Ow U w.heap.size z'∧Small z'.b)∧x.1≠p7∧x.1≠w.heap.size+1∧gR≠x.2.1)
theorem Cr.grown{w W W':World}{p7 p:Nat}{z:Bx}{gR cR i:Nat}{rv:List Value}(h:Cr w W p7 z gR cR i rv)(k:W.grownBy W' (some p))(hp:w.heap.size≤p)(n1:p≠p7)(n2:p≠w.heap.size+1)(off:Off z p)(nr:gR≠p):Cr w W' p7 z gR cR i rv:=
 ⟨h.b.grown k h.b.size (fun j e=>by cases e;exact hp),h.o4.kept k (fun e=>n2 (by injection e with e;exact e.symm)),h.o7.kept k (fun e=>n1 (by injection e with e;exact e.symm)),
  ⟨row_block h.oz.oa (k.block _ h.oz.oa.lt.2 (fun e=>off.1 (by injection e))),row_block h.oz.oi (k.block _ h.oz.oi.lt.2 (fun e=>off.2.1 (by injection e))),row_block h.oz.ob (k.block _ h.oz.ob.lt.2 (fun e=>off.2.2.1 (by injection e))),row_block h.oz.ol (k.block _ h.oz.ol.lt.2 (fun e=>off.2.2.2.1 (by injection e))),row_block h.oz.ot (k.block _ h.oz.ot.lt.2 (fun e=>off.2.2.2.2 (by injection e)))⟩,
  h.sm,row_block h.rr (k.block _ (World.ownsRow.lt h.rr gR rfl).2 (fun e=>nr (by injection e))),h.ne⟩
theorem hh_step{V V':World}{N:Nat}{cd:Int}{y:BHelp.Ix}(H:cd≠0∨∃z':Bx,y=ofB z'∧Ow V N z'∧Small z'.b)(k:Below V.heap.size V V'):cd≠0∨∃z':Bx,y=ofB z'∧Ow V' N z'∧Small z'.b:=by
 rcases H with h|⟨z',h1,h2,h3⟩
 ·exact .inl h
 ·exact .inr ⟨z',h1,h2.below k (Nat.le_refl _),h3⟩
theorem off_r2{w:World}{base base' p:Nat}{y:Bx}{v0 v1:Value}(O:Ow w base y)(B:R2 w base' p v0 v1):Off y p:=
 ⟨row_ne O.oa B (by decide),row_ne O.oi B (by decide),row_ne O.ob B (by decide),row_ne O.ol B (by decide),row_ne O.ot B (by decide)⟩
theorem fc_six{w V:World}{p7 p9:Nat}{z:Bx}{gR cR k:Nat}{rv:List Value}{y:BHelp.Ix}(C:Cr w V p7 z gR cR k rv)(B9:Box V w.heap.size p9 (.slice none 0 0) (.slice none 0 0) (.slice none 0 0) (.slice none 0 0) (.slice none 0 0) (.int .i64 0))(n1:p9≠p7)(n2:p9≠w.heap.size+1):Cr w ((((((V.setCell ⟨p9,0,none⟩ (.slice y.aa y.b.ac.length y.ca)).setCell ⟨p9,1,none⟩ (.slice y.ai y.b.ic.length y.ci)).setCell ⟨p9,2,none⟩ (.slice y.ab y.b.bs.length y.cb)).setCell ⟨p9,3,none⟩ (.slice y.al y.b.ls.length y.cl)).setCell ⟨p9,4,none⟩ (.slice y.ats y.b.ts.length y.ct)).setCell ⟨p9,5,none⟩ (.int .i64 y.b.lot)) p7 z gR cR k rv:=
 C.grown (box_six B9 (.slice y.aa y.b.ac.length y.ca) (.slice y.ai y.b.ic.length y.ci) (.slice y.ab y.b.bs.length y.cb) (.slice y.al y.b.ls.length y.cl) (.slice y.ats y.b.ts.length y.ct) (.int .i64 y.b.lot)).2 B9.lt.1 n1 n2 (off_box C.oz B9) (row_ne C.rr B9 (by decide))
theorem fc_of{w V:World}{p7 p9 p10:Nat}{z:Bx}{gR cR k:Nat}{rv:List Value}{y:BHelp.Ix}{cd tt:Int}(C:Cr w V p7 z gR cR k rv)(B9:Box V w.heap.size p9 (.slice none 0 0) (.slice none 0 0) (.slice none 0 0) (.slice none 0 0) (.slice none 0 0) (.int .i64 0))(R10:R2 V w.heap.size p10 (.int .i64 0) (.int .i64 0))(H:cd≠0∨∃z':Bx,y=ofB z'∧Ow V w.heap.size z'∧Small z'.b)(n1:p9≠p7)(n2:p9≠w.heap.size+1)(n3:gR≠p10):Fc w p7 z gR cR k rv (p9,p10,y,cd,tt) ((((((((V.setCell ⟨p9,0,none⟩ (.slice y.aa y.b.ac.length y.ca)).setCell ⟨p9,1,none⟩ (.slice y.ai y.b.ic.length y.ci)).setCell ⟨p9,2,none⟩ (.slice y.ab y.b.bs.length y.cb)).setCell ⟨p9,3,none⟩ (.slice y.al y.b.ls.length y.cl)).setCell ⟨p9,4,none⟩ (.slice y.ats y.b.ts.length y.ct)).setCell ⟨p9,5,none⟩ (.int .i64 y.b.lot)).setCell ⟨p10,0,none⟩ (.int .i64 cd)).setCell ⟨p10,1,none⟩ (.int .i64 tt)):=by
 have C6:=fc_six (y:=y) C B9 n1 n2
 obtain⟨o,q⟩:=box_six B9 (.slice y.aa y.b.ac.length y.ca) (.slice y.ai y.b.ic.length y.ci) (.slice y.ab y.b.bs.length y.cb) (.slice y.al y.b.ls.length y.cl) (.slice y.ats y.b.ts.length y.ct) (.int .i64 y.b.lot)
 have ne:p10≠p9:=row_ne R10 B9 (by decide)
 have R6:R2 ((((((V.setCell ⟨p9,0,none⟩ (.slice y.aa y.b.ac.length y.ca)).setCell ⟨p9,1,none⟩ (.slice y.ai y.b.ic.length y.ci)).setCell ⟨p9,2,none⟩ (.slice y.ab y.b.bs.length y.cb)).setCell ⟨p9,3,none⟩ (.slice y.al y.b.ls.length y.cl)).setCell ⟨p9,4,none⟩ (.slice y.ats y.b.ts.length y.ct)).setCell ⟨p9,5,none⟩ (.int .i64 y.b.lot)) w.heap.size p10 (.int .i64 0) (.int .i64 0):=R10.kept q (fun e=>ne (by injection e))
 obtain⟨r1,q1⟩:=R6.set0 (.int .i64 cd)
 obtain⟨r2,q2⟩:=r1.set1 (.int .i64 tt)
 have m1:p10≠p7:=row_ne R10 C.o7 (by decide)
 have m2:p10≠w.heap.size+1:=row_ne R10 C.o4 (by decide)
 have C7:=C6.grown q1 R10.lt.1 m1 m2 (off_r2 C6.oz R6) n3
 have C8:=C7.grown q2 R10.lt.1 m1 m2 (off_r2 C7.oz r1) n3
 refine zh ⟨C8,(o.kept q1 (fun e=>ne (by injection e with e;exact e.symm))).kept q2 (fun e=>ne (by injection e with e;exact e.symm)),r2,?_,n1,n2,n3⟩
 rcases H with h|⟨z',h1,h2,h3⟩
 ·exact .inl h
 ·have w6:=ow_six h2 (off_box h2 B9) (.slice y.aa y.b.ac.length y.ca) (.slice y.ai y.b.ic.length y.ci) (.slice y.ab y.b.bs.length y.cb) (.slice y.al y.b.ls.length y.cl) (.slice y.ats y.b.ts.length y.ct) (.int .i64 y.b.lot)
  have w7:=ow_set w6 (off_r2 w6 R6) 0 (.int .i64 cd)
  exact .inr ⟨z',h1,ow_set w7 (off_r2 w7 r1) 1 (.int .i64 tt),h3⟩
theorem ow_row{w W':World}{base base' gR cR i:Nat}{z:Bx}{rv:List Value}(h:Ow w base z)(k:w.grownBy W' (some gR))(r:w.ownsRow base' 75 2 (.slice (some ⟨gR,0,none⟩) i cR) i rv):Ow W' base z:=
 ⟨row_block h.oa (k.block _ h.oa.lt.2 (fun e=>row_ne h.oa r (by decide) (by injection e))),row_block h.oi (k.block _ h.oi.lt.2 (fun e=>row_ne h.oi r (by decide) (by injection e))),row_block h.ob (k.block _ h.ob.lt.2 (fun e=>row_ne h.ob r (by decide) (by injection e))),row_block h.ol (k.block _ h.ol.lt.2 (fun e=>row_ne h.ol r (by decide) (by injection e))),row_block h.ot (k.block _ h.ot.lt.2 (fun e=>row_ne h.ot r (by decide) (by injection e)))⟩
theorem Cr.app{w W W':World}{p7:Nat}{z:Bx}{gR cR i g' c' i':Nat}{rv rv':List Value}(h:Cr w W p7 z gR cR i rv)(k:W.grownBy W' (some gR))(o:W'.ownsRow w.heap.size 75 2 (.slice (some ⟨g',0,none⟩) i' c') i' rv'):Cr w W' p7 z g' c' i' rv':=by
 have lt:=World.ownsRow.lt h.rr gR rfl
 refine⟨h.b.grown k h.b.size (fun j e=>by cases e;exact lt.1),h.o4.kept k (fun e=>row_ne h.o4 h.rr (by decide) (by injection e)),h.o7.kept k (fun e=>row_ne h.o7 h.rr (by decide) (by injection e)),?_,h.sm,o,h.ne⟩
 exact ow_row h.oz k h.rr
theorem Cr.next{w W:World}{p7:Nat}{z z2:Bx}{gR cR i:Nat}{rv:List Value}(h:Cr w W p7 z gR cR i rv)(o:Ow W w.heap.size z2)(s:Small z2.b):Cr w ((((((W.setCell ⟨p7,0,none⟩ (.slice (some ⟨z2.ga,0,none⟩) z2.b.ac.length z2.ca)).setCell ⟨p7,1,none⟩ (.slice (some ⟨z2.gi,0,none⟩) z2.b.ic.length z2.ci)).setCell ⟨p7,2,none⟩ (.slice (some ⟨z2.gb,0,none⟩) z2.b.bs.length z2.cb)).setCell ⟨p7,3,none⟩ (.slice (some ⟨z2.gl,0,none⟩) z2.b.ls.length z2.cl)).setCell ⟨p7,4,none⟩ (.slice (some ⟨z2.gt,0,none⟩) z2.b.ts.length z2.ct)).setCell ⟨p7,5,none⟩ (.int .i64 z2.b.lot)) p7 z2 gR cR i rv:=by
 obtain⟨b,q⟩:=box_six h.o7 (.slice (some ⟨z2.ga,0,none⟩) z2.b.ac.length z2.ca) (.slice (some ⟨z2.gi,0,none⟩) z2.b.ic.length z2.ci) (.slice (some ⟨z2.gb,0,none⟩) z2.b.bs.length z2.cb) (.slice (some ⟨z2.gl,0,none⟩) z2.b.ls.length z2.cl) (.slice (some ⟨z2.gt,0,none⟩) z2.b.ts.length z2.ct) (.int .i64 z2.b.lot)
 exact⟨h.b.grown q h.b.size (fun j e=>by cases e;exact h.o7.lt.1),h.o4.kept q (fun e=>h.ne (by injection e with e;exact e.symm)),b,ow_six o (off_box o h.o7) _ _ _ _ _ _,s,row_block h.rr (q.block _ (World.ownsRow.lt h.rr gR rfl).2 (fun e=>row_ne h.rr h.o7 (by decide) (by injection e))),h.ne⟩
theorem held{w W:World}{p7:Nat}{z:Bx}{gR cR i:Nat}{rv:List Value}(C:Cr w W p7 z gR cR i rv){gL k:Nat}{vs:List Value}{v0 v1:Value}(hg:gL<w.heap.size)(hv:∀j v,vs[j]?=some v→w.cell? ⟨gL,j,none⟩=some v)(h0:vs[k*2]?=some v0)(h1:vs[k*2+1]?=some v1):
  W.cell? ⟨p7,0,none⟩=some (.slice (some ⟨z.ga,0,none⟩) z.b.ac.length z.ca)∧W.cell? ⟨p7,1,none⟩=some (.slice (some ⟨z.gi,0,none⟩) z.b.ic.length z.ci)∧W.cell? ⟨p7,2,none⟩=some (.slice (some ⟨z.gb,0,none⟩) z.b.bs.length z.cb)∧W.cell? ⟨p7,3,none⟩=some (.slice (some ⟨z.gl,0,none⟩) z.b.ls.length z.cl)∧W.cell? ⟨p7,4,none⟩=some (.slice (some ⟨z.gt,0,none⟩) z.b.ts.length z.ct)∧W.cell? ⟨p7,5,none⟩=some (.int .i64 z.b.lot)∧W.cell? ⟨gL,k*2,none⟩=some v0∧W.cell? ⟨gL,k*2+1,none⟩=some v1:=
 ⟨C.o7.c0,C.o7.c1,C.o7.c2,C.o7.c3,C.o7.c4,C.o7.c5,(C.b.cell (p:=⟨gL,k*2,none⟩) hg).trans (hv _ _ h0),(C.b.cell (p:=⟨gL,k*2+1,none⟩) hg).trans (hv _ _ h1)⟩
theorem sRun(w:World)(cc gL n cL:Nat)(vs:List Value)(hl:vs.length=n*2)(hn:n≤100000)(hg:gL<w.heap.size)(hv:∀j v,vs[j]?=some v→w.cell? ⟨gL,j,none⟩=some v)(hc:Cs w cc vs):
  Calls Tryz.prog 29 #[.agg #[.slice none 0 0,.slice none 0 0,.slice none 0 0,.slice none 0 0,.slice none 0 0,.int .i64 0],.slice (some ⟨gL,0,none⟩) n cL] w fun e w'=>∃(z:Bx) (rv:Value),e= .returned (.tuple #[.agg #[.slice (some ⟨z.ga,0,none⟩) z.b.ac.length z.ca,.slice (some ⟨z.gi,0,none⟩) z.b.ic.length z.ci,.slice (some ⟨z.gb,0,none⟩) z.b.bs.length z.cb,.slice (some ⟨z.gl,0,none⟩) z.b.ls.length z.cl,.slice (some ⟨z.gt,0,none⟩) z.b.ts.length z.ct,.int .i64 z.b.lot],rv])∧Ow w' w.heap.size z∧Small z.b∧Below w.heap.size w w':=by
 have HV:=zh hv
 have HC:=zh hc
 have s1:(w.alloc (.cells #[.slice none 0 0,.slice none 0 0,.slice none 0 0,.slice none 0 0,.slice none 0 0,.int .i64 0] 44)).heap.size=w.heap.size+1:=by simp
 have s2:((w.alloc (.cells #[.slice none 0 0,.slice none 0 0,.slice none 0 0,.slice none 0 0,.slice none 0 0,.int .i64 0] 44)).alloc (.cells #[.slice none 0 0,.slice none 0 0,.slice none 0 0,.slice none 0 0,.slice none 0 0,.int .i64 0] 44)).heap.size=w.heap.size+1+1:=by simp
 have s3:(((w.alloc (.cells #[.slice none 0 0,.slice none 0 0,.slice none 0 0,.slice none 0 0,.slice none 0 0,.int .i64 0] 44)).alloc (.cells #[.slice none 0 0,.slice none 0 0,.slice none 0 0,.slice none 0 0,.slice none 0 0,.int .i64 0] 44)).alloc (.cells #[] 75)).heap.size=w.heap.size+1+1+1:=by simp
 have q23:Below ((w.alloc (.cells #[.slice none 0 0,.slice none 0 0,.slice none 0 0,.slice none 0 0,.slice none 0 0,.int .i64 0] 44)).alloc (.cells #[.slice none 0 0,.slice none 0 0,.slice none 0 0,.slice none 0 0,.slice none 0 0,.int .i64 0] 44)).heap.size ((w.alloc (.cells #[.slice none 0 0,.slice none 0 0,.slice none 0 0,.slice none 0 0,.slice none 0 0,.int .i64 0] 44)).alloc (.cells #[.slice none 0 0,.slice none 0 0,.slice none 0 0,.slice none 0 0,.slice none 0 0,.int .i64 0] 44)) (((w.alloc (.cells #[.slice none 0 0,.slice none 0 0,.slice none 0 0,.slice none 0 0,.slice none 0 0,.int .i64 0] 44)).alloc (.cells #[.slice none 0 0,.slice none 0 0,.slice none 0 0,.slice none 0 0,.slice none 0 0,.int .i64 0] 44)).alloc (.cells #[] 75)):=one_more _ _
 have q13:Below (w.alloc (.cells #[.slice none 0 0,.slice none 0 0,.slice none 0 0,.slice none 0 0,.slice none 0 0,.int .i64 0] 44)).heap.size (w.alloc (.cells #[.slice none 0 0,.slice none 0 0,.slice none 0 0,.slice none 0 0,.slice none 0 0,.int .i64 0] 44)) (((w.alloc (.cells #[.slice none 0 0,.slice none 0 0,.slice none 0 0,.slice none 0 0,.slice none 0 0,.int .i64 0] 44)).alloc (.cells #[.slice none 0 0,.slice none 0 0,.slice none 0 0,.slice none 0 0,.slice none 0 0,.int .i64 0] 44)).alloc (.cells #[] 75)):=(one_more _ _).trans (q23.mono (by omega))
 have q03:Below w.heap.size w (((w.alloc (.cells #[.slice none 0 0,.slice none 0 0,.slice none 0 0,.slice none 0 0,.slice none 0 0,.int .i64 0] 44)).alloc (.cells #[.slice none 0 0,.slice none 0 0,.slice none 0 0,.slice none 0 0,.slice none 0 0,.int .i64 0] 44)).alloc (.cells #[] 75)):=(one_more _ _).trans (q13.mono (by omega))
 have X0:=zh (show Box (((w.alloc (.cells #[.slice none 0 0,.slice none 0 0,.slice none 0 0,.slice none 0 0,.slice none 0 0,.int .i64 0] 44)).alloc (.cells #[.slice none 0 0,.slice none 0 0,.slice none 0 0,.slice none 0 0,.slice none 0 0,.int .i64 0] 44)).alloc (.cells #[] 75)) w.heap.size w.heap.size (.slice none 0 0) (.slice none 0 0) (.slice none 0 0) (.slice none 0 0) (.slice none 0 0) (.int .i64 0) from(Zero12.nil_box w).below q13 (by omega))
 have Y0:=zh (show Box (((w.alloc (.cells #[.slice none 0 0,.slice none 0 0,.slice none 0 0,.slice none 0 0,.slice none 0 0,.int .i64 0] 44)).alloc (.cells #[.slice none 0 0,.slice none 0 0,.slice none 0 0,.slice none 0 0,.slice none 0 0,.int .i64 0] 44)).alloc (.cells #[] 75)) w.heap.size (w.heap.size+1) (.slice none 0 0) (.slice none 0 0) (.slice none 0 0) (.slice none 0 0) (.slice none 0 0) (.int .i64 0) from(Box.made (w:=(w.alloc (.cells #[.slice none 0 0,.slice none 0 0,.slice none 0 0,.slice none 0 0,.slice none 0 0,.int .i64 0] 44))) _ _ _ _ _ _ (by omega) s1.symm).below q23 (by omega))
 have R0:=zh (show(((w.alloc (.cells #[.slice none 0 0,.slice none 0 0,.slice none 0 0,.slice none 0 0,.slice none 0 0,.int .i64 0] 44)).alloc (.cells #[.slice none 0 0,.slice none 0 0,.slice none 0 0,.slice none 0 0,.slice none 0 0,.int .i64 0] 44)).alloc (.cells #[] 75)).ownsRow w.heap.size 75 2 (.slice (some ⟨w.heap.size+1+1,0,none⟩) 0 0) 0 [] from by have:=World.ownsRow_lit (base:=w.heap.size) (e:=75) (size:=2) ((w.alloc (.cells #[.slice none 0 0,.slice none 0 0,.slice none 0 0,.slice none 0 0,.slice none 0 0,.int .i64 0] 44)).alloc (.cells #[.slice none 0 0,.slice none 0 0,.slice none 0 0,.slice none 0 0,.slice none 0 0,.int .i64 0] 44)) #[] 0 (by omega) (by decide) rfl;rw[s2] at this;exact this)
 have B0:=zh q03
 clear hv hc q23 q13 q03
 obtain⟨-,-,-,-,-,-,c0,c1,c2,c3,c4,c5⟩:=box_opn (zu X0)
 go_enter Tryz.func29,Tryz.ntmps29
 go_wp2_with fail
 generalize (((w.alloc (.cells #[.slice none 0 0,.slice none 0 0,.slice none 0 0,.slice none 0 0,.slice none 0 0,.int .i64 0] 44)).alloc (.cells #[.slice none 0 0,.slice none 0 0,.slice none 0 0,.slice none 0 0,.slice none 0 0,.int .i64 0] 44)).alloc (.cells #[] 75))=U0 at *
 refine(Copy12.copy0 _).mono ?_
 rintro e u1 ⟨z,hz,rfl,ow,bb⟩
 have SM:=zh (show Small z.b from by rw[hz];exact⟨by simp,by simp,by simp,by simp,by simp⟩)
 have ul:=bb.size
 have C1:=zh (show Cr w (u1.alloc (.cells #[.slice (some ⟨z.ga,0,none⟩) z.b.ac.length z.ca,.slice (some ⟨z.gi,0,none⟩) z.b.ic.length z.ci,.slice (some ⟨z.gb,0,none⟩) z.b.bs.length z.cb,.slice (some ⟨z.gl,0,none⟩) z.b.ls.length z.cl,.slice (some ⟨z.gt,0,none⟩) z.b.ts.length z.ct,.int .i64 z.b.lot] 44)) u1.heap.size z (w.heap.size+1+1) 0 0 [] from
  ⟨((zu B0).trans (bb.mono (zu B0).size)).alloc (by omega) _,((zu Y0).below bb (zu Y0).lt.2).below (one_more _ _) (by have:=(zu Y0).lt.2;omega),Box.made _ _ _ _ _ _ (by omega) rfl,(ow.below (one_more _ _) (Nat.le_refl _)).rebase (by omega),zu SM,row_below (row_below (zu R0) bb) (one_more _ _),by omega⟩)
 have X1:=zh (((zu X0).below bb (zu X0).lt.2).below (one_more u1 (.cells #[.slice (some ⟨z.ga,0,none⟩) z.b.ac.length z.ca,.slice (some ⟨z.gi,0,none⟩) z.b.ic.length z.ci,.slice (some ⟨z.gb,0,none⟩) z.b.bs.length z.cb,.slice (some ⟨z.gl,0,none⟩) z.b.ls.length z.cl,.slice (some ⟨z.gt,0,none⟩) z.b.ts.length z.ct,.int .i64 z.b.lot] 44)) (by have:=(zu X0).lt.2;omega))
 clear hz ow bb X0 Y0 R0 B0 SM c0 c1 c2 c3 c4 c5
 obtain⟨-,-,-,-,-,-,c0,c1,c2,c3,c4,c5⟩:=box_opn (zu X1)
 go_wp2_with fail
 refine(Zero12.booksOk0 _).mono ?_
 rintro e u2 ⟨rfl,bb⟩
 replace C1:=zh ((zu C1).step bb)
 clear bb X1 c0 c1 c2 c3 c4 c5
 by_cases big:300<n
 ·have nb:(300:Int)<n:=by omega
  obtain⟨-,-,-,-,-,-,c0,c1,c2,c3,c4,c5⟩:=box_opn (zu C1).o7
  obtain⟨f0,f1,f2,f3,f4,f5,d0,d1,d2,d3,d4,d5⟩:=box_opn (zu C1).o4
  have F:=zh (zu C1).fin
  have SM:=zh (zu C1).sm
  go_wp2
  obtain⟨-,-,-,-,-,-,e0,e1,e2,e3,e4,e5⟩:=box_opn (zu F).1
  refine bodyPost_ret (v:= .tuple #[.agg #[.slice (some ⟨z.ga,0,none⟩) z.b.ac.length z.ca,.slice (some ⟨z.gi,0,none⟩) z.b.ic.length z.ci,.slice (some ⟨z.gb,0,none⟩) z.b.bs.length z.cb,.slice (some ⟨z.gl,0,none⟩) z.b.ls.length z.cl,.slice (some ⟨z.gt,0,none⟩) z.b.ts.length z.ct,.int .i64 z.b.lot],.slice (some ⟨w.heap.size+1+1,0,none⟩) 0 0]) (by simp[results,Tryz.results29,go_sem,e0,e1,e2,e3,e4,e5]) rfl ?_
  exact⟨z,_,rfl,(zu F).2.1,zu SM,(zu F).2.2⟩
 have nb:¬(300:Int)<n:=by omega
 go_wp2
 clear nb big
 generalize u1.heap.size=p7 at *
 go_loopw [6,8] (fun l i wr=>∃(z:Bx) (gR cR k:Nat) (rv:List Value),l= .slice (some ⟨gR,0,none⟩) k cR∧i= .int .i64 k∧k≤n∧Hid (Cr w wr p7 z gR cR k rv)) (fun _ i _=>n-(intOf i).toNat)
 case atStart=>exact⟨z,w.heap.size+1+1,0,0,[],rfl,rfl,by omega,C1⟩
 case round=>
  clear C1
  obtain⟨z,gR,cR,k,rv,rfl,rfl,hk,C⟩:=hrel
  obtain⟨-,-,-,-,-,-,c0,c1,c2,c3,c4,c5⟩:=box_opn (zu C).o7
  by_cases t:k<n
  case neg=>
   have e:k=n:=by omega
   subst e
   obtain⟨f0,f1,f2,f3,f4,f5,d0,d1,d2,d3,d4,d5⟩:=box_opn (zu C).o4
   have F:=zh (zu C).fin
   have SM:=zh (zu C).sm
   go_wp2
   obtain⟨-,-,-,-,-,-,e0,e1,e2,e3,e4,e5⟩:=box_opn (zu F).1
   refine bodyPost_ret (v:= .tuple #[.agg #[.slice (some ⟨z.ga,0,none⟩) z.b.ac.length z.ca,.slice (some ⟨z.gi,0,none⟩) z.b.ic.length z.ci,.slice (some ⟨z.gb,0,none⟩) z.b.bs.length z.cb,.slice (some ⟨z.gl,0,none⟩) z.b.ls.length z.cl,.slice (some ⟨z.gt,0,none⟩) z.b.ts.length z.ct,.int .i64 z.b.lot],.slice (some ⟨gR,0,none⟩) k cR]) (by simp[results,Tryz.results29,go_sem,e0,e1,e2,e3,e4,e5]) rfl ?_
   exact⟨z,_,rfl,(zu F).2.1,zu SM,(zu F).2.2⟩
  have kn:(k:Int)<n:=by omega
  obtain⟨v0,v1,hv0,hv1,kd,g,m,c,xs,rfl,rfl,xl,m7,lg,gne,ha⟩:=(zu HC) k (by omega)
  have g0:=((zu C).b.cell (p:=⟨gL,k*2,none⟩) hg).trans ((zu HV) _ _ hv0)
  have g1:=((zu C).b.cell (p:=⟨gL,k*2+1,none⟩) hg).trans ((zu HV) _ _ hv1)
  have HA:=zh ha
  have XL:=zh xl
  clear ha xl
  go_wp2_with fail
  have AP:=zh (fun(X:World) hr hg ha=>sApply X z kd g c xs (by rw[zu XL];omega) hr hg ha)
  rw[zu XL] at AP
  have C0:=zh ((zu C).step ((Below.refl _ _).drew))
  have k4:=(zu C).o4.lt
  have k7:=(zu C).o7.lt
  have kr:=World.ownsRow.lt (zu C).rr gR rfl
  refine reg_rest (α:=Nat×Nat×BHelp.Ix×Int×Int) (fun a x=>(((((((((((a.put (some 31) (.agg #[.slice (some ⟨z.ga,0,none⟩) z.b.ac.length z.ca,.slice (some ⟨z.gi,0,none⟩) z.b.ic.length z.ci,.slice (some ⟨z.gb,0,none⟩) z.b.bs.length z.cb,.slice (some ⟨z.gl,0,none⟩) z.b.ls.length z.cl,.slice (some ⟨z.gt,0,none⟩) z.b.ts.length z.ct,.int .i64 z.b.lot])).put (some 32) (.slice (some ⟨gL,0,none⟩) n cL)).put (some 33) (.int .i64 k)).put (some 34) (.pointer (some ⟨gL,k*2,none⟩))).put (some 35) (.agg #[.int .i64 kd,.slice (some ⟨g,0,none⟩) m c])).put (some 36) (.tuple #[.agg #[.slice x.2.2.1.aa x.2.2.1.b.ac.length x.2.2.1.ca,.slice x.2.2.1.ai x.2.2.1.b.ic.length x.2.2.1.ci,.slice x.2.2.1.ab x.2.2.1.b.bs.length x.2.2.1.cb,.slice x.2.2.1.al x.2.2.1.b.ls.length x.2.2.1.cl,.slice x.2.2.1.ats x.2.2.1.b.ts.length x.2.2.1.ct,.int .i64 x.2.2.1.b.lot],.agg #[.int .i64 x.2.2.2.1,.int .i64 x.2.2.2.2]])).put (some 30) (.tuple #[.agg #[.slice x.2.2.1.aa x.2.2.1.b.ac.length x.2.2.1.ca,.slice x.2.2.1.ai x.2.2.1.b.ic.length x.2.2.1.ci,.slice x.2.2.1.ab x.2.2.1.b.bs.length x.2.2.1.cb,.slice x.2.2.1.al x.2.2.1.b.ls.length x.2.2.1.cl,.slice x.2.2.1.ats x.2.2.1.b.ts.length x.2.2.1.ct,.int .i64 x.2.2.1.b.lot],.agg #[.int .i64 x.2.2.2.1,.int .i64 x.2.2.2.2]])).put (some 37) (.agg #[.slice x.2.2.1.aa x.2.2.1.b.ac.length x.2.2.1.ca,.slice x.2.2.1.ai x.2.2.1.b.ic.length x.2.2.1.ci,.slice x.2.2.1.ab x.2.2.1.b.bs.length x.2.2.1.cb,.slice x.2.2.1.al x.2.2.1.b.ls.length x.2.2.1.cl,.slice x.2.2.1.ats x.2.2.1.b.ts.length x.2.2.1.ct,.int .i64 x.2.2.1.b.lot])).put (some 38) (.agg #[.int .i64 x.2.2.2.1,.int .i64 x.2.2.2.2])).put (some 9) (.pointer (some ⟨x.1,0,none⟩))).put (some 10) (.pointer (some ⟨x.2.1,0,none⟩)))) (Fc w p7 z gR cR k rv) ?_ ?_
  ·rintro⟨p9,p10,y,cd,tt⟩ U hf
   have CU:=zh (zu hf).1
   have BU:=zh (zu hf).2.1
   have RU:=zh (zu hf).2.2.1
   have HU:=zh (zu hf).2.2.2.1
   have n1:p9≠p7:=(zu hf).2.2.2.2.1
   have n3:gR≠p10:=(zu hf).2.2.2.2.2.2
   clear hf
   simp only at BU RU HU
   try simp only[Act.put,zA,zB,zC]
   obtain⟨-,-,i0,i1⟩:=(zu RU).opn
   have lr:=(zu CU).b.size
   have R1:=zh (row_below (zu CU).rr (one_more U (.cells #[.int .i64 cd,.int .i64 tt] 75)))
   go_wp2_with (first|(at_builtin;refine wp_app2 _ 69 75 (.agg #[.int .i64 0,.int .i64 0]) 16 Tryz.underlying69 infoR rfl (by decide) rfl _ _ rfl w.heap.size gR k cR 1 rv [.int .i64 cd,.int .i64 tt] U.heap.size 1 rfl rfl (zu R1) rfl (two_at U _ _) (by simp[Value.oneCell']) (by omega) (by simp;omega) ?_)|go_in)
   intro g5 c5' U5 o5 gr5 loc5
   have b1:=one_more U (.cells #[.int .i64 cd,.int .i64 tt] 75)
   have C5:=zh (((zu CU).step b1).app gr5 o5)
   have R5:=zh (((zu RU).below b1 (zu RU).lt.2).kept gr5 (fun e=>n3 (by injection e with e;exact e.symm)))
   have B5:=zh (((zu BU).below b1 (zu BU).lt.2).kept gr5 (fun e=>row_ne (zu BU) (zu CU).rr (by decide) (by injection e)))
   have H5:=zh (show cd≠0∨∃z':Bx,y=ofB z'∧Ow U5 w.heap.size z'∧Small z'.b from by
    rcases zu HU with h|⟨z',h1,h2,h3⟩
    ·exact .inl h
    ·exact .inr ⟨z',h1,ow_row (h2.below b1 (Nat.le_refl _)) gr5 (zu R1),h3⟩)
   clear b1 o5 gr5 loc5 CU BU RU HU R1 i0 i1
   obtain⟨-,-,i0,i1⟩:=(zu R5).opn
   by_cases cz:cd=0
   ·have cn:(cd==0)=true:=by simp[cz]
    obtain⟨z2,e2,o2,s2⟩:∃z':Bx,y=ofB z'∧Ow U5 w.heap.size z'∧Small z'.b:=(zu H5).resolve_left (fun h=>h cz)
    subst e2
    have C6:=zh ((zu C5).next o2 s2)
    have B6:=zh (show Box U5 w.heap.size p9 (.slice (some ⟨z2.ga,0,none⟩) z2.b.ac.length z2.ca) (.slice (some ⟨z2.gi,0,none⟩) z2.b.ic.length z2.ci) (.slice (some ⟨z2.gb,0,none⟩) z2.b.bs.length z2.cb) (.slice (some ⟨z2.gl,0,none⟩) z2.b.ls.length z2.cl) (.slice (some ⟨z2.gt,0,none⟩) z2.b.ts.length z2.ct) (.int .i64 z2.b.lot) from zu B5)
    have CZ:=zh cz
    clear cz o2 s2 H5 B5
    obtain⟨-,-,-,-,-,-,j0,j1,j2,j3,j4,j5⟩:=box_opn (zu B6)
    obtain⟨f0,f1,f2,f3,f4,f5,d0,d1,d2,d3,d4,d5⟩:=box_opn (zu C5).o7
    clear C5
    go_wp2
    go_roundw
    case rel=>exact⟨z2,g5,c5',k+1,_,rfl,by go_num,by omega,C6⟩
    case measure=>simp[intOf];omega
   ·have cn:(cd==0)=false:=by simp[cz]
    have CZ:=zh cz
    clear cz
    go_wp2
    go_roundw
    case rel=>exact⟨z,g5,c5',k+1,_,rfl,by go_num,by omega,C5⟩
    case measure=>simp[intOf];omega
  refine wp_region_held_drew (S:=(fun w'=>w'.cell? ⟨p7,0,none⟩=some (.slice (some ⟨z.ga,0,none⟩) z.b.ac.length z.ca)∧w'.cell? ⟨p7,1,none⟩=some (.slice (some ⟨z.gi,0,none⟩) z.b.ic.length z.ci)∧w'.cell? ⟨p7,2,none⟩=some (.slice (some ⟨z.gb,0,none⟩) z.b.bs.length z.cb)∧w'.cell? ⟨p7,3,none⟩=some (.slice (some ⟨z.gl,0,none⟩) z.b.ls.length z.cl)∧w'.cell? ⟨p7,4,none⟩=some (.slice (some ⟨z.gt,0,none⟩) z.b.ts.length z.ct)∧w'.cell? ⟨p7,5,none⟩=some (.int .i64 z.b.lot)∧w'.cell? ⟨gL,k*2,none⟩=some (.int .i64 kd)∧w'.cell? ⟨gL,k*2+1,none⟩=some (.slice (some ⟨g,0,none⟩) m c))) (by kernel_rfl) (held (zu C0) hg (zu HV) hv0 hv1) (fun hHeld=>?_)
  refine tk 0 (.agg #[.slice (some ⟨z.ga,0,none⟩) z.b.ac.length z.ca,.slice (some ⟨z.gi,0,none⟩) z.b.ic.length z.ci,.slice (some ⟨z.gb,0,none⟩) z.b.bs.length z.cb,.slice (some ⟨z.gl,0,none⟩) z.b.ls.length z.cl,.slice (some ⟨z.gt,0,none⟩) z.b.ts.length z.ct,.int .i64 z.b.lot]) rfl (by kernel_rfl) (fun _ _ _ h=>h) (by rfl) hHeld (fun w hSw=>by go_simp) ?_
  refine tk 1 (.slice (some ⟨gL,0,none⟩) n cL) rfl (by kernel_rfl) (fun _ _ _ h=>h) (by rfl) hHeld (fun w hSw=>by go_simp) ?_
  refine tk 2 (.int .i64 k) rfl (by kernel_rfl) (fun _ _ _ h=>h) (by rfl) hHeld (fun w hSw=>by go_simp) ?_
  refine tk 3 (.pointer (some ⟨gL,k*2,none⟩)) rfl (by kernel_rfl) (fun _ _ _ h=>h) (by rfl) hHeld (fun w hSw=>by go_simp) ?_
  refine tk 4 (.agg #[.int .i64 kd,.slice (some ⟨g,0,none⟩) m c]) rfl (by kernel_rfl) (fun _ _ _ h=>h) (by rfl) hHeld (fun w hSw=>by go_simp) ?_
  try simp only[Act.put,zA,zB,zC]
  refine wpAnyH_ready (rs:=[5,9,10]) (by kernel_rfl) (by simp) ?_
  refine AllReadyH.cons rfl (fun K hK=>?_) (AllReadyH.cons rfl (fun K hK=>?_) (AllReadyH.cons rfl (fun K hK=>?_) AllReadyH.nil))
  ·go_simp
   have CD:=zh ((zu C).step ((Below.refl _ _).drew))
   go_wp2_with fail
   refine((zu AP) _ ((zu CD).oz.rd (zu CD).sm) (Nat.lt_of_lt_of_le lg (zu CD).b.size) (Ints.At.below (zu HA) (zu CD).b lg)).mono ?_
   rintro e u1 ⟨y,cd,tt,rfl,bb,hh⟩
   have D1:=zh ((zu CD).step bb)
   have us:wr.heap.size≤u1.heap.size:=bb.size
   have HH:=zh (show cd≠0∨∃z':Bx,y=ofB z'∧Ow u1 w.heap.size z'∧Small z'.b from hh.imp id (fun⟨z',h1,h2,h3⟩=>⟨z',h1,h2.rebase (zu CD).b.size,h3⟩))
   clear bb hh
   go_wp2_with fail
   refine hK.out _ _ (held (zu D1) hg (zu HV) hv0 hv1) (fun hHeld=>?_)
   clear hK K
   try simp only[Act.put,zA,zB,zC]
   refine tk 6 (.tuple #[.agg #[.slice y.aa y.b.ac.length y.ca,.slice y.ai y.b.ic.length y.ci,.slice y.ab y.b.bs.length y.cb,.slice y.al y.b.ls.length y.cl,.slice y.ats y.b.ts.length y.ct,.int .i64 y.b.lot],.agg #[.int .i64 cd,.int .i64 tt]]) rfl (by kernel_rfl) (fun _ _ _ h=>h) (by rfl) hHeld (fun w hSw=>by go_simp) ?_
   refine tk 7 (.agg #[.slice y.aa y.b.ac.length y.ca,.slice y.ai y.b.ic.length y.ci,.slice y.ab y.b.bs.length y.cb,.slice y.al y.b.ls.length y.cl,.slice y.ats y.b.ts.length y.ct,.int .i64 y.b.lot]) rfl (by kernel_rfl) (fun _ _ _ h=>h) (by rfl) hHeld (fun w hSw=>by go_simp) ?_
   refine tk 8 (.agg #[.int .i64 cd,.int .i64 tt]) rfl (by kernel_rfl) (fun _ _ _ h=>h) (by rfl) hHeld (fun w hSw=>by go_simp) ?_
   try simp only[Act.put,zA,zB,zC]
   refine wpAnyH_ready (rs:=[9,10]) (by kernel_rfl) (by simp) ?_
   refine AllReadyH.cons rfl (fun K hK=>?_) (AllReadyH.cons rfl (fun K hK=>?_) AllReadyH.nil)
   ·go_simp
    have D2:=zh ((zu D1).step (one_more u1 (.cells #[.slice none 0 0,.slice none 0 0,.slice none 0 0,.slice none 0 0,.slice none 0 0,.int .i64 0] 44)))
    have B2:=zh (Box.made (w:=u1) (base:=w.heap.size) (g:=u1.heap.size) (.slice none 0 0) (.slice none 0 0) (.slice none 0 0) (.slice none 0 0) (.slice none 0 0) (.int .i64 0) (zu D1).b.size (by first|rfl|simp))
    replace HH:=zh (hh_step (zu HH) (one_more u1 (.cells #[.slice none 0 0,.slice none 0 0,.slice none 0 0,.slice none 0 0,.slice none 0 0,.int .i64 0] 44)))
    have k2a:=(zu D1).o4.lt
    have k2b:=(zu D1).o7.lt
    have k2c:=World.ownsRow.lt (zu D1).rr gR rfl
    refine hK.out _ _ (held (zu D2) hg (zu HV) hv0 hv1) (fun hHeld=>?_)
    clear hK K
    try simp only[Act.put,zA,zB,zC]
    generalize (u1.alloc (.cells #[.slice none 0 0,.slice none 0 0,.slice none 0 0,.slice none 0 0,.slice none 0 0,.int .i64 0] 44))=V2 at *
    try simp only[Act.put,zA,zB,zC]
    refine wpAnyH_ready (rs:=[10]) (by kernel_rfl) (by simp) ?_
    refine AllReadyH.cons rfl (fun K hK=>?_) AllReadyH.nil
    go_simp
    have D3:=zh ((zu D2).step (one_more V2 (.cells #[.int .i64 0,.int .i64 0] 75)))
    have B3:=zh ((zu B2).below (one_more V2 (.cells #[.int .i64 0,.int .i64 0] 75)) (zu B2).lt.2)
    have R3:=zh (R2.made (w:=V2) (base:=w.heap.size) (g:=V2.heap.size) (.int .i64 0) (.int .i64 0) (zu D2).b.size (by first|rfl|simp))
    replace HH:=zh (hh_step (zu HH) (one_more V2 (.cells #[.int .i64 0,.int .i64 0] 75)))
    have k3a:=(zu D2).o4.lt
    have k3b:=(zu D2).o7.lt
    have k3c:=World.ownsRow.lt (zu D2).rr gR rfl
    refine hK.out _ _ (held (zu D3) hg (zu HV) hv0 hv1) (fun hHeld=>?_)
    clear hK K
    try simp only[Act.put,zA,zB,zC]
    generalize (V2.alloc (.cells #[.int .i64 0,.int .i64 0] 75))=V3 at *
    obtain⟨f0,f1,f2,f3,f4,f5,d0,d1,d2,d3,d4,d5⟩:=box_opn (zu B3)
    have l9:=(zu B3).lt
    obtain⟨h0,h1,i0,i1⟩:=(zu R3).opn
    have l10:=(zu R3).lt
    have x2:¬V2.heap.size=u1.heap.size:=row_ne (zu R3) (zu B3) (by decide)
    have x1:¬u1.heap.size=V2.heap.size:=fun e=>x2 e.symm
    have FF:=zh (fc_of (y:=y) (cd:=cd) (tt:=tt) (zu D3) (zu B3) (zu R3) (zu HH) (by omega) (by omega) (by omega))
    try simp only[Act.put,zA,zB,zC]
    refine wpAnyH_ready (rs:=[11]) (by kernel_rfl) (by simp) ?_
    refine AllReadyH.cons rfl (fun K hK=>?_) AllReadyH.nil
    go_simp
    refine hK.out _ _ (held (fc_six (y:=y) (zu D3) (zu B3) (by omega) (by omega)) hg (zu HV) hv0 hv1) (fun hHeld=>?_)
    clear hK K
    try simp only[Act.put,zA,zB,zC]
    try simp only[Act.put,zA,zB,zC]
    refine wpAnyH_ready (rs:=[12]) (by kernel_rfl) (by simp) ?_
    refine AllReadyH.cons rfl (fun K hK=>?_) AllReadyH.nil
    go_simp
    refine hK.out _ _ (held (zu FF).1 hg (zu HV) hv0 hv1) (fun hHeld=>?_)
    clear hK K
    try simp only[Act.put,zA,zB,zC]
    try simp only[Act.put,zA,zB,zC]
    refine wpAnyH_done (by kernel_rfl) ?_ _
    exact⟨(u1.heap.size,V2.heap.size,y,cd,tt),rfl,zu FF⟩
   ·go_simp
    have D4:=zh ((zu D1).step (one_more u1 (.cells #[.int .i64 0,.int .i64 0] 75)))
    have R4:=zh (R2.made (w:=u1) (base:=w.heap.size) (g:=u1.heap.size) (.int .i64 0) (.int .i64 0) (zu D1).b.size (by first|rfl|simp))
    replace HH:=zh (hh_step (zu HH) (one_more u1 (.cells #[.int .i64 0,.int .i64 0] 75)))
    have k4a:=(zu D1).o4.lt
    have k4b:=(zu D1).o7.lt
    have k4c:=World.ownsRow.lt (zu D1).rr gR rfl
    refine hK.out _ _ (held (zu D4) hg (zu HV) hv0 hv1) (fun hHeld=>?_)
    clear hK K
    try simp only[Act.put,zA,zB,zC]
    generalize (u1.alloc (.cells #[.int .i64 0,.int .i64 0] 75))=V4 at *
    try simp only[Act.put,zA,zB,zC]
    refine wpAnyH_ready (rs:=[9]) (by kernel_rfl) (by simp) ?_
    refine AllReadyH.cons rfl (fun K hK=>?_) AllReadyH.nil
    go_simp
    have D5:=zh ((zu D4).step (one_more V4 (.cells #[.slice none 0 0,.slice none 0 0,.slice none 0 0,.slice none 0 0,.slice none 0 0,.int .i64 0] 44)))
    have B5:=zh (Box.made (w:=V4) (base:=w.heap.size) (g:=V4.heap.size) (.slice none 0 0) (.slice none 0 0) (.slice none 0 0) (.slice none 0 0) (.slice none 0 0) (.int .i64 0) (zu D4).b.size (by first|rfl|simp))
    have R5:=zh ((zu R4).below (one_more V4 (.cells #[.slice none 0 0,.slice none 0 0,.slice none 0 0,.slice none 0 0,.slice none 0 0,.int .i64 0] 44)) (zu R4).lt.2)
    replace HH:=zh (hh_step (zu HH) (one_more V4 (.cells #[.slice none 0 0,.slice none 0 0,.slice none 0 0,.slice none 0 0,.slice none 0 0,.int .i64 0] 44)))
    have k5a:=(zu D4).o4.lt
    have k5b:=(zu D4).o7.lt
    have k5c:=World.ownsRow.lt (zu D4).rr gR rfl
    refine hK.out _ _ (held (zu D5) hg (zu HV) hv0 hv1) (fun hHeld=>?_)
    clear hK K
    try simp only[Act.put,zA,zB,zC]
    generalize (V4.alloc (.cells #[.slice none 0 0,.slice none 0 0,.slice none 0 0,.slice none 0 0,.slice none 0 0,.int .i64 0] 44))=V5 at *
    obtain⟨f0,f1,f2,f3,f4,f5,d0,d1,d2,d3,d4,d5⟩:=box_opn (zu B5)
    have l9:=(zu B5).lt
    obtain⟨h0,h1,i0,i1⟩:=(zu R5).opn
    have l10:=(zu R5).lt
    have x2:¬u1.heap.size=V4.heap.size:=row_ne (zu R5) (zu B5) (by decide)
    have x1:¬V4.heap.size=u1.heap.size:=fun e=>x2 e.symm
    have FF:=zh (fc_of (y:=y) (cd:=cd) (tt:=tt) (zu D5) (zu B5) (zu R5) (zu HH) (by omega) (by omega) (by omega))
    try simp only[Act.put,zA,zB,zC]
    refine wpAnyH_ready (rs:=[11]) (by kernel_rfl) (by simp) ?_
    refine AllReadyH.cons rfl (fun K hK=>?_) AllReadyH.nil
    go_simp
    refine hK.out _ _ (held (fc_six (y:=y) (zu D5) (zu B5) (by omega) (by omega)) hg (zu HV) hv0 hv1) (fun hHeld=>?_)
    clear hK K
    try simp only[Act.put,zA,zB,zC]
    try simp only[Act.put,zA,zB,zC]
    refine wpAnyH_ready (rs:=[12]) (by kernel_rfl) (by simp) ?_
    refine AllReadyH.cons rfl (fun K hK=>?_) AllReadyH.nil
    go_simp
    refine hK.out _ _ (held (zu FF).1 hg (zu HV) hv0 hv1) (fun hHeld=>?_)
    clear hK K
    try simp only[Act.put,zA,zB,zC]
    try simp only[Act.put,zA,zB,zC]
    refine wpAnyH_done (by kernel_rfl) ?_ _
    exact⟨(V4.heap.size,u1.heap.size,y,cd,tt),rfl,zu FF⟩
  ·go_simp
   have D6:=zh ((zu C).step (one_more wr (.cells #[.slice none 0 0,.slice none 0 0,.slice none 0 0,.slice none 0 0,.slice none 0 0,.int .i64 0] 44)))
   have B6:=zh (Box.made (w:=wr) (base:=w.heap.size) (g:=wr.heap.size) (.slice none 0 0) (.slice none 0 0) (.slice none 0 0) (.slice none 0 0) (.slice none 0 0) (.int .i64 0) (zu C).b.size (by first|rfl|simp))
   have k6a:=(zu C).o4.lt
   have k6b:=(zu C).o7.lt
   have k6c:=World.ownsRow.lt (zu C).rr gR rfl
   refine hK.out _ _ (held (zu D6) hg (zu HV) hv0 hv1) (fun hHeld=>?_)
   clear hK K
   try simp only[Act.put,zA,zB,zC]
   generalize (wr.alloc (.cells #[.slice none 0 0,.slice none 0 0,.slice none 0 0,.slice none 0 0,.slice none 0 0,.int .i64 0] 44))=V6 at *
   try simp only[Act.put,zA,zB,zC]
   refine wpAnyH_ready (rs:=[5,10]) (by kernel_rfl) (by simp) ?_
   refine AllReadyH.cons rfl (fun K hK=>?_) (AllReadyH.cons rfl (fun K hK=>?_) AllReadyH.nil)
   ·go_simp
    have CD:=zh ((zu D6).step ((Below.refl _ _).drew))
    go_wp2_with fail
    refine((zu AP) _ ((zu CD).oz.rd (zu CD).sm) (Nat.lt_of_lt_of_le lg (zu CD).b.size) (Ints.At.below (zu HA) (zu CD).b lg)).mono ?_
    rintro e u7 ⟨y,cd,tt,rfl,bb,hh⟩
    have D7:=zh ((zu CD).step bb)
    have us:V6.heap.size≤u7.heap.size:=bb.size
    have HH:=zh (show cd≠0∨∃z':Bx,y=ofB z'∧Ow u7 w.heap.size z'∧Small z'.b from hh.imp id (fun⟨z',h1,h2,h3⟩=>⟨z',h1,h2.rebase (zu CD).b.size,h3⟩))
    have B7:=zh (Box.below (zu B6) (show Below V6.heap.size V6 u7 from((Below.refl _ _).drew).trans bb) (zu B6).lt.2)
    clear bb hh
    go_wp2_with fail
    refine hK.out _ _ (held (zu D7) hg (zu HV) hv0 hv1) (fun hHeld=>?_)
    clear hK K
    try simp only[Act.put,zA,zB,zC]
    refine tk 6 (.tuple #[.agg #[.slice y.aa y.b.ac.length y.ca,.slice y.ai y.b.ic.length y.ci,.slice y.ab y.b.bs.length y.cb,.slice y.al y.b.ls.length y.cl,.slice y.ats y.b.ts.length y.ct,.int .i64 y.b.lot],.agg #[.int .i64 cd,.int .i64 tt]]) rfl (by kernel_rfl) (fun _ _ _ h=>h) (by rfl) hHeld (fun w hSw=>by go_simp) ?_
    refine tk 7 (.agg #[.slice y.aa y.b.ac.length y.ca,.slice y.ai y.b.ic.length y.ci,.slice y.ab y.b.bs.length y.cb,.slice y.al y.b.ls.length y.cl,.slice y.ats y.b.ts.length y.ct,.int .i64 y.b.lot]) rfl (by kernel_rfl) (fun _ _ _ h=>h) (by rfl) hHeld (fun w hSw=>by go_simp) ?_
    refine tk 8 (.agg #[.int .i64 cd,.int .i64 tt]) rfl (by kernel_rfl) (fun _ _ _ h=>h) (by rfl) hHeld (fun w hSw=>by go_simp) ?_
    try simp only[Act.put,zA,zB,zC]
    refine wpAnyH_ready (rs:=[10]) (by kernel_rfl) (by simp) ?_
    refine AllReadyH.cons rfl (fun K hK=>?_) AllReadyH.nil
    go_simp
    have D8:=zh ((zu D7).step (one_more u7 (.cells #[.int .i64 0,.int .i64 0] 75)))
    have B8:=zh ((zu B7).below (one_more u7 (.cells #[.int .i64 0,.int .i64 0] 75)) (zu B7).lt.2)
    have R8:=zh (R2.made (w:=u7) (base:=w.heap.size) (g:=u7.heap.size) (.int .i64 0) (.int .i64 0) (zu D7).b.size (by first|rfl|simp))
    replace HH:=zh (hh_step (zu HH) (one_more u7 (.cells #[.int .i64 0,.int .i64 0] 75)))
    have k8a:=(zu D7).o4.lt
    have k8b:=(zu D7).o7.lt
    have k8c:=World.ownsRow.lt (zu D7).rr gR rfl
    refine hK.out _ _ (held (zu D8) hg (zu HV) hv0 hv1) (fun hHeld=>?_)
    clear hK K
    try simp only[Act.put,zA,zB,zC]
    generalize (u7.alloc (.cells #[.int .i64 0,.int .i64 0] 75))=V8 at *
    obtain⟨f0,f1,f2,f3,f4,f5,d0,d1,d2,d3,d4,d5⟩:=box_opn (zu B8)
    have l9:=(zu B8).lt
    obtain⟨h0,h1,i0,i1⟩:=(zu R8).opn
    have l10:=(zu R8).lt
    have x2:¬u7.heap.size=wr.heap.size:=row_ne (zu R8) (zu B8) (by decide)
    have x1:¬wr.heap.size=u7.heap.size:=fun e=>x2 e.symm
    have FF:=zh (fc_of (y:=y) (cd:=cd) (tt:=tt) (zu D8) (zu B8) (zu R8) (zu HH) (by omega) (by omega) (by omega))
    try simp only[Act.put,zA,zB,zC]
    refine wpAnyH_ready (rs:=[11]) (by kernel_rfl) (by simp) ?_
    refine AllReadyH.cons rfl (fun K hK=>?_) AllReadyH.nil
    go_simp
    refine hK.out _ _ (held (fc_six (y:=y) (zu D8) (zu B8) (by omega) (by omega)) hg (zu HV) hv0 hv1) (fun hHeld=>?_)
    clear hK K
    try simp only[Act.put,zA,zB,zC]
    try simp only[Act.put,zA,zB,zC]
    refine wpAnyH_ready (rs:=[12]) (by kernel_rfl) (by simp) ?_
    refine AllReadyH.cons rfl (fun K hK=>?_) AllReadyH.nil
    go_simp
    refine hK.out _ _ (held (zu FF).1 hg (zu HV) hv0 hv1) (fun hHeld=>?_)
    clear hK K
    try simp only[Act.put,zA,zB,zC]
    try simp only[Act.put,zA,zB,zC]
    refine wpAnyH_done (by kernel_rfl) ?_ _
    exact⟨(wr.heap.size,u7.heap.size,y,cd,tt),rfl,zu FF⟩
   ·go_simp
    have D9:=zh ((zu D6).step (one_more V6 (.cells #[.int .i64 0,.int .i64 0] 75)))
    have B9:=zh ((zu B6).below (one_more V6 (.cells #[.int .i64 0,.int .i64 0] 75)) (zu B6).lt.2)
    have R9:=zh (R2.made (w:=V6) (base:=w.heap.size) (g:=V6.heap.size) (.int .i64 0) (.int .i64 0) (zu D6).b.size (by first|rfl|simp))
    have k9a:=(zu D6).o4.lt
    have k9b:=(zu D6).o7.lt
    have k9c:=World.ownsRow.lt (zu D6).rr gR rfl
    refine hK.out _ _ (held (zu D9) hg (zu HV) hv0 hv1) (fun hHeld=>?_)
    clear hK K
    try simp only[Act.put,zA,zB,zC]
    generalize (V6.alloc (.cells #[.int .i64 0,.int .i64 0] 75))=V9 at *
    try simp only[Act.put,zA,zB,zC]
    refine wpAnyH_ready (rs:=[5]) (by kernel_rfl) (by simp) ?_
    refine AllReadyH.cons rfl (fun K hK=>?_) AllReadyH.nil
    go_simp
    have CD:=zh ((zu D9).step ((Below.refl _ _).drew))
    go_wp2_with fail
    refine((zu AP) _ ((zu CD).oz.rd (zu CD).sm) (Nat.lt_of_lt_of_le lg (zu CD).b.size) (Ints.At.below (zu HA) (zu CD).b lg)).mono ?_
    rintro e u10 ⟨y,cd,tt,rfl,bb,hh⟩
    have D10:=zh ((zu CD).step bb)
    have us:V9.heap.size≤u10.heap.size:=bb.size
    have HH:=zh (show cd≠0∨∃z':Bx,y=ofB z'∧Ow u10 w.heap.size z'∧Small z'.b from hh.imp id (fun⟨z',h1,h2,h3⟩=>⟨z',h1,h2.rebase (zu CD).b.size,h3⟩))
    have B10:=zh (Box.below (zu B9) (show Below V9.heap.size V9 u10 from((Below.refl _ _).drew).trans bb) (zu B9).lt.2)
    have R10:=zh (R2.below (zu R9) (show Below V9.heap.size V9 u10 from((Below.refl _ _).drew).trans bb) (zu R9).lt.2)
    clear bb hh
    go_wp2_with fail
    refine hK.out _ _ (held (zu D10) hg (zu HV) hv0 hv1) (fun hHeld=>?_)
    clear hK K
    try simp only[Act.put,zA,zB,zC]
    refine tk 6 (.tuple #[.agg #[.slice y.aa y.b.ac.length y.ca,.slice y.ai y.b.ic.length y.ci,.slice y.ab y.b.bs.length y.cb,.slice y.al y.b.ls.length y.cl,.slice y.ats y.b.ts.length y.ct,.int .i64 y.b.lot],.agg #[.int .i64 cd,.int .i64 tt]]) rfl (by kernel_rfl) (fun _ _ _ h=>h) (by rfl) hHeld (fun w hSw=>by go_simp) ?_
    refine tk 7 (.agg #[.slice y.aa y.b.ac.length y.ca,.slice y.ai y.b.ic.length y.ci,.slice y.ab y.b.bs.length y.cb,.slice y.al y.b.ls.length y.cl,.slice y.ats y.b.ts.length y.ct,.int .i64 y.b.lot]) rfl (by kernel_rfl) (fun _ _ _ h=>h) (by rfl) hHeld (fun w hSw=>by go_simp) ?_
    refine tk 8 (.agg #[.int .i64 cd,.int .i64 tt]) rfl (by kernel_rfl) (fun _ _ _ h=>h) (by rfl) hHeld (fun w hSw=>by go_simp) ?_
    obtain⟨f0,f1,f2,f3,f4,f5,d0,d1,d2,d3,d4,d5⟩:=box_opn (zu B10)
    have l9:=(zu B10).lt
    obtain⟨h0,h1,i0,i1⟩:=(zu R10).opn
    have l10:=(zu R10).lt
    have x2:¬V6.heap.size=wr.heap.size:=row_ne (zu R10) (zu B10) (by decide)
    have x1:¬wr.heap.size=V6.heap.size:=fun e=>x2 e.symm
    have FF:=zh (fc_of (y:=y) (cd:=cd) (tt:=tt) (zu D10) (zu B10) (zu R10) (zu HH) (by omega) (by omega) (by omega))
    try simp only[Act.put,zA,zB,zC]
    refine wpAnyH_ready (rs:=[11]) (by kernel_rfl) (by simp) ?_
    refine AllReadyH.cons rfl (fun K hK=>?_) AllReadyH.nil
    go_simp
    refine hK.out _ _ (held (fc_six (y:=y) (zu D10) (zu B10) (by omega) (by omega)) hg (zu HV) hv0 hv1) (fun hHeld=>?_)
    clear hK K
    try simp only[Act.put,zA,zB,zC]
    try simp only[Act.put,zA,zB,zC]
    refine wpAnyH_ready (rs:=[12]) (by kernel_rfl) (by simp) ?_
    refine AllReadyH.cons rfl (fun K hK=>?_) AllReadyH.nil
    go_simp
    refine hK.out _ _ (held (zu FF).1 hg (zu HV) hv0 hv1) (fun hHeld=>?_)
    clear hK K
    try simp only[Act.put,zA,zB,zC]
    try simp only[Act.put,zA,zB,zC]
    refine wpAnyH_done (by kernel_rfl) ?_ _
    exact⟨(wr.heap.size,V6.heap.size,y,cd,tt),rfl,zu FF⟩
  ·go_simp
   have D11:=zh ((zu C).step (one_more wr (.cells #[.int .i64 0,.int .i64 0] 75)))
   have R11:=zh (R2.made (w:=wr) (base:=w.heap.size) (g:=wr.heap.size) (.int .i64 0) (.int .i64 0) (zu C).b.size (by first|rfl|simp))
   have k11a:=(zu C).o4.lt
   have k11b:=(zu C).o7.lt
   have k11c:=World.ownsRow.lt (zu C).rr gR rfl
   refine hK.out _ _ (held (zu D11) hg (zu HV) hv0 hv1) (fun hHeld=>?_)
   clear hK K
   try simp only[Act.put,zA,zB,zC]
   generalize (wr.alloc (.cells #[.int .i64 0,.int .i64 0] 75))=V11 at *
   try simp only[Act.put,zA,zB,zC]
   refine wpAnyH_ready (rs:=[5,9]) (by kernel_rfl) (by simp) ?_
   refine AllReadyH.cons rfl (fun K hK=>?_) (AllReadyH.cons rfl (fun K hK=>?_) AllReadyH.nil)
   ·go_simp
    have CD:=zh ((zu D11).step ((Below.refl _ _).drew))
    go_wp2_with fail
    refine((zu AP) _ ((zu CD).oz.rd (zu CD).sm) (Nat.lt_of_lt_of_le lg (zu CD).b.size) (Ints.At.below (zu HA) (zu CD).b lg)).mono ?_
    rintro e u12 ⟨y,cd,tt,rfl,bb,hh⟩
    have D12:=zh ((zu CD).step bb)
    have us:V11.heap.size≤u12.heap.size:=bb.size
    have HH:=zh (show cd≠0∨∃z':Bx,y=ofB z'∧Ow u12 w.heap.size z'∧Small z'.b from hh.imp id (fun⟨z',h1,h2,h3⟩=>⟨z',h1,h2.rebase (zu CD).b.size,h3⟩))
    have R12:=zh (R2.below (zu R11) (show Below V11.heap.size V11 u12 from((Below.refl _ _).drew).trans bb) (zu R11).lt.2)
    clear bb hh
    go_wp2_with fail
    refine hK.out _ _ (held (zu D12) hg (zu HV) hv0 hv1) (fun hHeld=>?_)
    clear hK K
    try simp only[Act.put,zA,zB,zC]
    refine tk 6 (.tuple #[.agg #[.slice y.aa y.b.ac.length y.ca,.slice y.ai y.b.ic.length y.ci,.slice y.ab y.b.bs.length y.cb,.slice y.al y.b.ls.length y.cl,.slice y.ats y.b.ts.length y.ct,.int .i64 y.b.lot],.agg #[.int .i64 cd,.int .i64 tt]]) rfl (by kernel_rfl) (fun _ _ _ h=>h) (by rfl) hHeld (fun w hSw=>by go_simp) ?_
    refine tk 7 (.agg #[.slice y.aa y.b.ac.length y.ca,.slice y.ai y.b.ic.length y.ci,.slice y.ab y.b.bs.length y.cb,.slice y.al y.b.ls.length y.cl,.slice y.ats y.b.ts.length y.ct,.int .i64 y.b.lot]) rfl (by kernel_rfl) (fun _ _ _ h=>h) (by rfl) hHeld (fun w hSw=>by go_simp) ?_
    refine tk 8 (.agg #[.int .i64 cd,.int .i64 tt]) rfl (by kernel_rfl) (fun _ _ _ h=>h) (by rfl) hHeld (fun w hSw=>by go_simp) ?_
    try simp only[Act.put,zA,zB,zC]
    refine wpAnyH_ready (rs:=[9]) (by kernel_rfl) (by simp) ?_
    refine AllReadyH.cons rfl (fun K hK=>?_) AllReadyH.nil
    go_simp
    have D13:=zh ((zu D12).step (one_more u12 (.cells #[.slice none 0 0,.slice none 0 0,.slice none 0 0,.slice none 0 0,.slice none 0 0,.int .i64 0] 44)))
    have B13:=zh (Box.made (w:=u12) (base:=w.heap.size) (g:=u12.heap.size) (.slice none 0 0) (.slice none 0 0) (.slice none 0 0) (.slice none 0 0) (.slice none 0 0) (.int .i64 0) (zu D12).b.size (by first|rfl|simp))
    have R13:=zh ((zu R12).below (one_more u12 (.cells #[.slice none 0 0,.slice none 0 0,.slice none 0 0,.slice none 0 0,.slice none 0 0,.int .i64 0] 44)) (zu R12).lt.2)
    replace HH:=zh (hh_step (zu HH) (one_more u12 (.cells #[.slice none 0 0,.slice none 0 0,.slice none 0 0,.slice none 0 0,.slice none 0 0,.int .i64 0] 44)))
    have k13a:=(zu D12).o4.lt
    have k13b:=(zu D12).o7.lt
    have k13c:=World.ownsRow.lt (zu D12).rr gR rfl
    refine hK.out _ _ (held (zu D13) hg (zu HV) hv0 hv1) (fun hHeld=>?_)
    clear hK K
    try simp only[Act.put,zA,zB,zC]
    generalize (u12.alloc (.cells #[.slice none 0 0,.slice none 0 0,.slice none 0 0,.slice none 0 0,.slice none 0 0,.int .i64 0] 44))=V13 at *
    obtain⟨f0,f1,f2,f3,f4,f5,d0,d1,d2,d3,d4,d5⟩:=box_opn (zu B13)
    have l9:=(zu B13).lt
    obtain⟨h0,h1,i0,i1⟩:=(zu R13).opn
    have l10:=(zu R13).lt
    have x2:¬wr.heap.size=u12.heap.size:=row_ne (zu R13) (zu B13) (by decide)
    have x1:¬u12.heap.size=wr.heap.size:=fun e=>x2 e.symm
    have FF:=zh (fc_of (y:=y) (cd:=cd) (tt:=tt) (zu D13) (zu B13) (zu R13) (zu HH) (by omega) (by omega) (by omega))
    try simp only[Act.put,zA,zB,zC]
    refine wpAnyH_ready (rs:=[11]) (by kernel_rfl) (by simp) ?_
    refine AllReadyH.cons rfl (fun K hK=>?_) AllReadyH.nil
    go_simp
    refine hK.out _ _ (held (fc_six (y:=y) (zu D13) (zu B13) (by omega) (by omega)) hg (zu HV) hv0 hv1) (fun hHeld=>?_)
    clear hK K
    try simp only[Act.put,zA,zB,zC]
    try simp only[Act.put,zA,zB,zC]
    refine wpAnyH_ready (rs:=[12]) (by kernel_rfl) (by simp) ?_
    refine AllReadyH.cons rfl (fun K hK=>?_) AllReadyH.nil
    go_simp
    refine hK.out _ _ (held (zu FF).1 hg (zu HV) hv0 hv1) (fun hHeld=>?_)
    clear hK K
    try simp only[Act.put,zA,zB,zC]
    try simp only[Act.put,zA,zB,zC]
    refine wpAnyH_done (by kernel_rfl) ?_ _
    exact⟨(u12.heap.size,wr.heap.size,y,cd,tt),rfl,zu FF⟩
   ·go_simp
    have D14:=zh ((zu D11).step (one_more V11 (.cells #[.slice none 0 0,.slice none 0 0,.slice none 0 0,.slice none 0 0,.slice none 0 0,.int .i64 0] 44)))
    have B14:=zh (Box.made (w:=V11) (base:=w.heap.size) (g:=V11.heap.size) (.slice none 0 0) (.slice none 0 0) (.slice none 0 0) (.slice none 0 0) (.slice none 0 0) (.int .i64 0) (zu D11).b.size (by first|rfl|simp))
    have R14:=zh ((zu R11).below (one_more V11 (.cells #[.slice none 0 0,.slice none 0 0,.slice none 0 0,.slice none 0 0,.slice none 0 0,.int .i64 0] 44)) (zu R11).lt.2)
    have k14a:=(zu D11).o4.lt
    have k14b:=(zu D11).o7.lt
    have k14c:=World.ownsRow.lt (zu D11).rr gR rfl
    refine hK.out _ _ (held (zu D14) hg (zu HV) hv0 hv1) (fun hHeld=>?_)
    clear hK K
    try simp only[Act.put,zA,zB,zC]
    generalize (V11.alloc (.cells #[.slice none 0 0,.slice none 0 0,.slice none 0 0,.slice none 0 0,.slice none 0 0,.int .i64 0] 44))=V14 at *
    try simp only[Act.put,zA,zB,zC]
    refine wpAnyH_ready (rs:=[5]) (by kernel_rfl) (by simp) ?_
    refine AllReadyH.cons rfl (fun K hK=>?_) AllReadyH.nil
    go_simp
    have CD:=zh ((zu D14).step ((Below.refl _ _).drew))
    go_wp2_with fail
    refine((zu AP) _ ((zu CD).oz.rd (zu CD).sm) (Nat.lt_of_lt_of_le lg (zu CD).b.size) (Ints.At.below (zu HA) (zu CD).b lg)).mono ?_
    rintro e u15 ⟨y,cd,tt,rfl,bb,hh⟩
    have D15:=zh ((zu CD).step bb)
    have us:V14.heap.size≤u15.heap.size:=bb.size
    have HH:=zh (show cd≠0∨∃z':Bx,y=ofB z'∧Ow u15 w.heap.size z'∧Small z'.b from hh.imp id (fun⟨z',h1,h2,h3⟩=>⟨z',h1,h2.rebase (zu CD).b.size,h3⟩))
    have B15:=zh (Box.below (zu B14) (show Below V14.heap.size V14 u15 from((Below.refl _ _).drew).trans bb) (zu B14).lt.2)
    have R15:=zh (R2.below (zu R14) (show Below V14.heap.size V14 u15 from((Below.refl _ _).drew).trans bb) (zu R14).lt.2)
    clear bb hh
    go_wp2_with fail
    refine hK.out _ _ (held (zu D15) hg (zu HV) hv0 hv1) (fun hHeld=>?_)
    clear hK K
    try simp only[Act.put,zA,zB,zC]
    refine tk 6 (.tuple #[.agg #[.slice y.aa y.b.ac.length y.ca,.slice y.ai y.b.ic.length y.ci,.slice y.ab y.b.bs.length y.cb,.slice y.al y.b.ls.length y.cl,.slice y.ats y.b.ts.length y.ct,.int .i64 y.b.lot],.agg #[.int .i64 cd,.int .i64 tt]]) rfl (by kernel_rfl) (fun _ _ _ h=>h) (by rfl) hHeld (fun w hSw=>by go_simp) ?_
    refine tk 7 (.agg #[.slice y.aa y.b.ac.length y.ca,.slice y.ai y.b.ic.length y.ci,.slice y.ab y.b.bs.length y.cb,.slice y.al y.b.ls.length y.cl,.slice y.ats y.b.ts.length y.ct,.int .i64 y.b.lot]) rfl (by kernel_rfl) (fun _ _ _ h=>h) (by rfl) hHeld (fun w hSw=>by go_simp) ?_
    refine tk 8 (.agg #[.int .i64 cd,.int .i64 tt]) rfl (by kernel_rfl) (fun _ _ _ h=>h) (by rfl) hHeld (fun w hSw=>by go_simp) ?_
    obtain⟨f0,f1,f2,f3,f4,f5,d0,d1,d2,d3,d4,d5⟩:=box_opn (zu B15)
    have l9:=(zu B15).lt
    obtain⟨h0,h1,i0,i1⟩:=(zu R15).opn
    have l10:=(zu R15).lt
    have x2:¬wr.heap.size=V11.heap.size:=row_ne (zu R15) (zu B15) (by decide)
    have x1:¬V11.heap.size=wr.heap.size:=fun e=>x2 e.symm
    have FF:=zh (fc_of (y:=y) (cd:=cd) (tt:=tt) (zu D15) (zu B15) (zu R15) (zu HH) (by omega) (by omega) (by omega))
    try simp only[Act.put,zA,zB,zC]
    refine wpAnyH_ready (rs:=[11]) (by kernel_rfl) (by simp) ?_
    refine AllReadyH.cons rfl (fun K hK=>?_) AllReadyH.nil
    go_simp
    refine hK.out _ _ (held (fc_six (y:=y) (zu D15) (zu B15) (by omega) (by omega)) hg (zu HV) hv0 hv1) (fun hHeld=>?_)
    clear hK K
    try simp only[Act.put,zA,zB,zC]
    try simp only[Act.put,zA,zB,zC]
    refine wpAnyH_ready (rs:=[12]) (by kernel_rfl) (by simp) ?_
    refine AllReadyH.cons rfl (fun K hK=>?_) AllReadyH.nil
    go_simp
    refine hK.out _ _ (held (zu FF).1 hg (zu HV) hv0 hv1) (fun hHeld=>?_)
    clear hK K
    try simp only[Act.put,zA,zB,zC]
    try simp only[Act.put,zA,zB,zC]
    refine wpAnyH_done (by kernel_rfl) ?_ _
    exact⟨(V11.heap.size,wr.heap.size,y,cd,tt),rfl,zu FF⟩
end SRun12
namespace DrawR12
open BMem Bks Ans Draw Draw11 DrawN12 DrawX12 SRun12
open SIssue (row_ne)
open BHelp (row_block)
def Co(w:World)(cc:Nat)(v0 v1:Value):Prop:=∃(k:Int) (g n c:Nat) (xs:List Int),v0= .int .i64 k∧v1= .slice (some ⟨g,0,none⟩) n c∧n≤7∧g≠cc∧Ints.Own w 0 g n c xs
def Cos(w:World)(cc:Nat)(vs:List Value):Prop:=∀i,i*2+1<vs.length→∃v0 v1,vs[i*2]?=some v0∧vs[i*2+1]?=some v1∧Co w cc v0 v1
section
variable {w w':World} {cc:Nat} {v0 v1:Value} {vs ys:List Value}
theorem Co.blk(h:Co w cc v0 v1)(q:∀g n c xs,g≠cc→Ints.Own w 0 g n c xs→w'.heap[g]?=w.heap[g]?):Co w' cc v0 v1:=by
 obtain⟨k,g,n,c,xs,h1,h2,h3,h4,h5⟩:=h
 exact⟨k,g,n,c,xs,h1,h2,h3,h4,row_block h5 (q g n c xs h4 h5)⟩
theorem Co.below(h:Co w cc v0 v1)(k:Below w.heap.size w w'):Co w' cc v0 v1:=h.blk (fun g n c xs _ o=>k.block g o.lt.2)
theorem Co.only(h:Co w cc v0 v1)(k:Only cc w w'):Co w' cc v0 v1:=h.blk (fun g n c xs ne o=>k.2 g o.lt.2 ne)
theorem Co.grown{base gL n cp:Nat}(h:Co w cc v0 v1)(k:w.grownBy w' (some gL))(r:w.ownsRow base 26 2 (.slice (some ⟨gL,0,none⟩) n cp) n vs):Co w' cc v0 v1:=
 h.blk (fun g n c xs _ o=>k.block g o.lt.2 (fun e=>row_ne o r (by decide) (by injection e)))
theorem Cos.map(h:Cos w cc vs)(q:∀v0 v1,Co w cc v0 v1→Co w' cc v0 v1):Cos w' cc vs:=fun i hi=>by
 obtain⟨v0,v1,h1,h2,h3⟩:=h i hi
 exact⟨v0,v1,h1,h2,q _ _ h3⟩
theorem Cos.app{n:Nat}(h:Cos w cc vs)(hl:vs.length=n*2)(k:Cos w cc ys):Cos w cc (vs++ys):=fun i hi=>by
 by_cases t:i*2+1<vs.length
 ·obtain⟨v0,v1,h1,h2,h3⟩:=h i t
  exact⟨v0,v1,by rw[List.getElem?_append_left (by omega)];exact h1,by rw[List.getElem?_append_left t];exact h2,h3⟩
 ·obtain⟨v0,v1,h1,h2,h3⟩:=k (i-n) (by simp at hi;omega)
  refine⟨v0,v1,?_,?_,h3⟩
  ·rw[List.getElem?_append_right (by omega),←h1]
   congr 1
   omega
  ·rw[List.getElem?_append_right (by omega),←h2]
   congr 1
   omega
theorem Cos.nil:Cos w cc []:=fun i hi=>by simp at hi
theorem Cos.one(h:Co w cc v0 v1):Cos w cc [v0,v1]:=fun i hi=>by
 obtain rfl:i=0:=by simp at hi;omega
 exact⟨v0,v1,rfl,rfl,h⟩
theorem Cos.cons(h:Co w cc v0 v1)(k:Cos w cc vs):Cos w cc (v0::v1::vs):=Cos.app (n:=1) (Cos.one h) rfl k
theorem Cos.cs(h:Cos w cc vs):Cs w cc vs:=fun i hi=>by
 obtain⟨v0,v1,h1,h2,k,g,n,c,xs,e1,e2,e3,e4,o⟩:=h i hi
 exact⟨v0,v1,h1,h2,k,g,n,c,xs,e1,e2,o.len,e3,o.lt.2,e4,o.at⟩
end
structure Lc(w0 w W:World)(c:Nat)(a:Option Addr)(len cap:Nat)(g n cp:Nat)(vs:List Value):Prop where
 mv:Moved w0 w W c a len cap
 hc:c<w.heap.size
 rr:W.ownsRow w.heap.size 26 2 (.slice (some ⟨g,0,none⟩) n cp) n vs
 co:Cos W c vs
 h0:w0.heap.size≤w.heap.size
section
variable {w0 w W W':World} {c:Nat} {a:Option Addr} {len cap g n cp:Nat} {vs:List Value}
theorem Lc.len2(h:Lc w0 w W c a len cap g n cp vs):vs.length=n*2:=h.rr.1
theorem Lc.ge(h:Lc w0 w W c a len cap g n cp vs):w.heap.size≤g∧g<W.heap.size:=World.ownsRow.lt h.rr g rfl
theorem Lc.bel(h:Lc w0 w W c a len cap g n cp vs)(k:Below W.heap.size W W'):Lc w0 w W' c a len cap g n cp vs:=
 ⟨moved_below h.mv k,h.hc,row_below h.rr k,h.co.map (fun _ _ q=>q.below k),h.h0⟩
theorem Lc.mov(h:Lc w0 w W c a len cap g n cp vs)(k:Moved w0 W W' c a len cap):Lc w0 w W' c a len cap g n cp vs:=
 ⟨h.mv.trans k,h.hc,row_block h.rr (k.2.2 g h.ge.2 (by have:=h.ge;have:=h.hc;omega)),h.co.map (fun _ _ q=>q.only k.2),h.h0⟩
theorem Lc.app{g' n' c':Nat}{ys:List Value}(h:Lc w0 w W c a len cap g n cp vs)(k:W.grownBy W' (some g))(o:W'.ownsRow w.heap.size 26 2 (.slice (some ⟨g',0,none⟩) n' c') n' (vs++ys))(q:Cos W c ys):Lc w0 w W' c a len cap g' n' c' (vs++ys):=
 ⟨moved_grown h.mv k h.hc h.ge.1 h.h0,h.hc,o,(h.co.map (fun _ _ q=>q.grown k h.rr)).app h.len2 (q.map (fun _ _ q=>q.grown k h.rr)),h.h0⟩
end
theorem six_at(U:World)(a b c d e f:Value){t:TypeId}:∀j v,[a,b,c,d,e,f][j]?=some v→(U.alloc (.cells #[a,b,c,d,e,f] t)).cell? ⟨U.heap.size,j,none⟩=some v:=by
 intro j v hj
 match j,hj with
 |0,hj=>simp at hj;subst hj;simp
 |1,hj=>simp at hj;subst hj;simp
 |2,hj=>simp at hj;subst hj;simp
 |3,hj=>simp at hj;subst hj;simp
 |4,hj=>simp at hj;subst hj;simp
 |5,hj=>simp at hj;subst hj;simp
 |j+6,hj=>simp at hj
theorem four_at(U:World)(a b c d:Value){t:TypeId}:∀j v,[a,b,c,d][j]?=some v→(U.alloc (.cells #[a,b,c,d] t)).cell? ⟨U.heap.size,j,none⟩=some v:=by
 intro j v hj
 match j,hj with
 |0,hj=>simp at hj;subst hj;simp
 |1,hj=>simp at hj;subst hj;simp
 |2,hj=>simp at hj;subst hj;simp
 |3,hj=>simp at hj;subst hj;simp
 |j+4,hj=>simp at hj
theorem first(w0 w A1 A2 A3 A4 A5 A6 A7 A8 A9 A10:World)(c:Nat)(a:Option Addr)(len cap:Nat)(h:Cur w0 w c a len cap)(e1:A1=w.alloc (.cells #[.int .i64 1,.int .i64 2] 3))(e2:A2=A1.alloc (.cells #[.int .i64 2,.int .i64 1] 3))(e3:A3=A2.alloc (.cells #[.int .i64 3,.int .i64 1] 3))(e4:A4=A3.alloc (.cells #[.int .i64 4,.int .i64 3] 3))(e5:A5=A4.alloc (.cells #[.int .i64 5,.int .i64 1] 3))(e6:A6=A5.alloc (.cells #[.int .i64 1,.slice (some ⟨w.heap.size,0,none⟩) 2 2,.int .i64 1,.slice (some ⟨w.heap.size+1,0,none⟩) 2 2,.int .i64 1,.slice (some ⟨w.heap.size+1+1,0,none⟩) 2 2,.int .i64 1,.slice (some ⟨w.heap.size+1+1+1,0,none⟩) 2 2,.int .i64 1,.slice (some ⟨w.heap.size+1+1+1+1,0,none⟩) 2 2] 26))(e7:A7=A6.alloc (.cells #[.int .i64 1,.int .i64 1] 3))(e8:A8=A7.alloc (.cells #[.int .i64 2,.int .i64 2] 3))(e9:A9=A8.alloc (.cells #[.int .i64 3,.int .i64 1] 3))(e10:A10=A9.alloc (.cells #[.int .i64 2,.slice (some ⟨w.heap.size+1+1+1+1+1+1,0,none⟩) 2 2,.int .i64 2,.slice (some ⟨w.heap.size+1+1+1+1+1+1+1,0,none⟩) 2 2,.int .i64 2,.slice (some ⟨w.heap.size+1+1+1+1+1+1+1+1,0,none⟩) 2 2] 26)):Lc w0 w A10 c a len cap (w.heap.size+1+1+1+1+1) 5 5 [.int .i64 1,.slice (some ⟨w.heap.size,0,none⟩) 2 2,.int .i64 1,.slice (some ⟨w.heap.size+1,0,none⟩) 2 2,.int .i64 1,.slice (some ⟨w.heap.size+1+1,0,none⟩) 2 2,.int .i64 1,.slice (some ⟨w.heap.size+1+1+1,0,none⟩) 2 2,.int .i64 1,.slice (some ⟨w.heap.size+1+1+1+1,0,none⟩) 2 2]∧Cos A10 c [.int .i64 2,.slice (some ⟨w.heap.size+1+1+1+1+1+1,0,none⟩) 2 2,.int .i64 2,.slice (some ⟨w.heap.size+1+1+1+1+1+1+1,0,none⟩) 2 2,.int .i64 2,.slice (some ⟨w.heap.size+1+1+1+1+1+1+1+1,0,none⟩) 2 2]∧(∀j v,[.int .i64 2,.slice (some ⟨w.heap.size+1+1+1+1+1+1,0,none⟩) 2 2,.int .i64 2,.slice (some ⟨w.heap.size+1+1+1+1+1+1+1,0,none⟩) 2 2,.int .i64 2,.slice (some ⟨w.heap.size+1+1+1+1+1+1+1+1,0,none⟩) 2 2][j]?=some v→A10.cell? ⟨w.heap.size+1+1+1+1+1+1+1+1+1,j,none⟩=some v):=by
 have hc:=h.hi
 have s1:A1.heap.size=w.heap.size+1:=by rw[e1];simp
 have s2:A2.heap.size=w.heap.size+1+1:=by rw[e2];simp[s1]
 have s3:A3.heap.size=w.heap.size+1+1+1:=by rw[e3];simp[s2]
 have s4:A4.heap.size=w.heap.size+1+1+1+1:=by rw[e4];simp[s3]
 have s5:A5.heap.size=w.heap.size+1+1+1+1+1:=by rw[e5];simp[s4]
 have s6:A6.heap.size=w.heap.size+1+1+1+1+1+1:=by rw[e6];simp[s5]
 have s7:A7.heap.size=w.heap.size+1+1+1+1+1+1+1:=by rw[e7];simp[s6]
 have s8:A8.heap.size=w.heap.size+1+1+1+1+1+1+1+1:=by rw[e8];simp[s7]
 have s9:A9.heap.size=w.heap.size+1+1+1+1+1+1+1+1+1:=by rw[e9];simp[s8]
 have s10:A10.heap.size=w.heap.size+1+1+1+1+1+1+1+1+1+1:=by rw[e10];simp[s9]
 have q10:Below (w.heap.size+1+1+1+1+1+1+1+1+1+1) A10 A10:=Below.refl _ _
 have q9:Below (w.heap.size+1+1+1+1+1+1+1+1+1) A9 A10:=Below.trans (by rw[e10];exact(one_more A9 _).mono (by omega)) (q10.mono (by omega))
 have q8:Below (w.heap.size+1+1+1+1+1+1+1+1) A8 A10:=Below.trans (by rw[e9];exact(one_more A8 _).mono (by omega)) (q9.mono (by omega))
 have q7:Below (w.heap.size+1+1+1+1+1+1+1) A7 A10:=Below.trans (by rw[e8];exact(one_more A7 _).mono (by omega)) (q8.mono (by omega))
 have q6:Below (w.heap.size+1+1+1+1+1+1) A6 A10:=Below.trans (by rw[e7];exact(one_more A6 _).mono (by omega)) (q7.mono (by omega))
 have q5:Below (w.heap.size+1+1+1+1+1) A5 A10:=Below.trans (by rw[e6];exact(one_more A5 _).mono (by omega)) (q6.mono (by omega))
 have q4:Below (w.heap.size+1+1+1+1) A4 A10:=Below.trans (by rw[e5];exact(one_more A4 _).mono (by omega)) (q5.mono (by omega))
 have q3:Below (w.heap.size+1+1+1) A3 A10:=Below.trans (by rw[e4];exact(one_more A3 _).mono (by omega)) (q4.mono (by omega))
 have q2:Below (w.heap.size+1+1) A2 A10:=Below.trans (by rw[e3];exact(one_more A2 _).mono (by omega)) (q3.mono (by omega))
 have q1:Below (w.heap.size+1) A1 A10:=Below.trans (by rw[e2];exact(one_more A1 _).mono (by omega)) (q2.mono (by omega))
 have q0:Below (w.heap.size) w A10:=Below.trans (by rw[e1];exact(one_more w _).mono (by omega)) (q1.mono (by omega))
 have o0:Ints.Own A1 0 (w.heap.size) 2 2 [1,2]:=by rw[e1];exact own2 (Nat.zero_le _) (by omega)
 have k0:Co A10 c (.int .i64 1) (.slice (some ⟨w.heap.size,0,none⟩) 2 2):=⟨1,w.heap.size,2,2,[1,2],rfl,rfl,by decide,by omega,o0.below q1 (by omega)⟩
 have o1:Ints.Own A2 0 (w.heap.size+1) 2 2 [2,1]:=by rw[e2];exact own2 (Nat.zero_le _) (by omega)
 have k1:Co A10 c (.int .i64 1) (.slice (some ⟨w.heap.size+1,0,none⟩) 2 2):=⟨1,w.heap.size+1,2,2,[2,1],rfl,rfl,by decide,by omega,o1.below q2 (by omega)⟩
 have o2:Ints.Own A3 0 (w.heap.size+1+1) 2 2 [3,1]:=by rw[e3];exact own2 (Nat.zero_le _) (by omega)
 have k2:Co A10 c (.int .i64 1) (.slice (some ⟨w.heap.size+1+1,0,none⟩) 2 2):=⟨1,w.heap.size+1+1,2,2,[3,1],rfl,rfl,by decide,by omega,o2.below q3 (by omega)⟩
 have o3:Ints.Own A4 0 (w.heap.size+1+1+1) 2 2 [4,3]:=by rw[e4];exact own2 (Nat.zero_le _) (by omega)
 have k3:Co A10 c (.int .i64 1) (.slice (some ⟨w.heap.size+1+1+1,0,none⟩) 2 2):=⟨1,w.heap.size+1+1+1,2,2,[4,3],rfl,rfl,by decide,by omega,o3.below q4 (by omega)⟩
 have o4:Ints.Own A5 0 (w.heap.size+1+1+1+1) 2 2 [5,1]:=by rw[e5];exact own2 (Nat.zero_le _) (by omega)
 have k4:Co A10 c (.int .i64 1) (.slice (some ⟨w.heap.size+1+1+1+1,0,none⟩) 2 2):=⟨1,w.heap.size+1+1+1+1,2,2,[5,1],rfl,rfl,by decide,by omega,o4.below q5 (by omega)⟩
 have o6:Ints.Own A7 0 (w.heap.size+1+1+1+1+1+1) 2 2 [1,1]:=by rw[e7];exact own2 (Nat.zero_le _) (by omega)
 have k6:Co A10 c (.int .i64 2) (.slice (some ⟨w.heap.size+1+1+1+1+1+1,0,none⟩) 2 2):=⟨2,w.heap.size+1+1+1+1+1+1,2,2,[1,1],rfl,rfl,by decide,by omega,o6.below q7 (by omega)⟩
 have o7:Ints.Own A8 0 (w.heap.size+1+1+1+1+1+1+1) 2 2 [2,2]:=by rw[e8];exact own2 (Nat.zero_le _) (by omega)
 have k7:Co A10 c (.int .i64 2) (.slice (some ⟨w.heap.size+1+1+1+1+1+1+1,0,none⟩) 2 2):=⟨2,w.heap.size+1+1+1+1+1+1+1,2,2,[2,2],rfl,rfl,by decide,by omega,o7.below q8 (by omega)⟩
 have o8:Ints.Own A9 0 (w.heap.size+1+1+1+1+1+1+1+1) 2 2 [3,1]:=by rw[e9];exact own2 (Nat.zero_le _) (by omega)
 have k8:Co A10 c (.int .i64 2) (.slice (some ⟨w.heap.size+1+1+1+1+1+1+1+1,0,none⟩) 2 2):=⟨2,w.heap.size+1+1+1+1+1+1+1+1,2,2,[3,1],rfl,rfl,by decide,by omega,o8.below q9 (by omega)⟩
 have r:A6.ownsRow w.heap.size 26 2 (.slice (some ⟨w.heap.size+1+1+1+1+1,0,none⟩) 5 5) 5 [.int .i64 1,.slice (some ⟨w.heap.size,0,none⟩) 2 2,.int .i64 1,.slice (some ⟨w.heap.size+1,0,none⟩) 2 2,.int .i64 1,.slice (some ⟨w.heap.size+1+1,0,none⟩) 2 2,.int .i64 1,.slice (some ⟨w.heap.size+1+1+1,0,none⟩) 2 2,.int .i64 1,.slice (some ⟨w.heap.size+1+1+1+1,0,none⟩) 2 2]:=by
  have r:=World.ownsRow_lit (base:=w.heap.size) (e:=26) (size:=2) A5 #[.int .i64 1,.slice (some ⟨w.heap.size,0,none⟩) 2 2,.int .i64 1,.slice (some ⟨w.heap.size+1,0,none⟩) 2 2,.int .i64 1,.slice (some ⟨w.heap.size+1+1,0,none⟩) 2 2,.int .i64 1,.slice (some ⟨w.heap.size+1+1+1,0,none⟩) 2 2,.int .i64 1,.slice (some ⟨w.heap.size+1+1+1+1,0,none⟩) 2 2] 5 (by omega) (by decide) rfl
  rw[s5] at r
  rw[e6]
  exact r
 have z:=six_at A9 (.int .i64 2) (.slice (some ⟨w.heap.size+1+1+1+1+1+1,0,none⟩) 2 2) (.int .i64 2) (.slice (some ⟨w.heap.size+1+1+1+1+1+1+1,0,none⟩) 2 2) (.int .i64 2) (.slice (some ⟨w.heap.size+1+1+1+1+1+1+1+1,0,none⟩) 2 2) (t:=26)
 rw[s9,←e10] at z
 exact⟨⟨moved_below (moved_start h) q0,hc,row_block r (q6.block _ (by omega)),.cons k0 (.cons k1 (.cons k2 (.cons k3 (.one k4)))),h.bel.size⟩,.cons k6 (.cons k7 (.one k8)),z⟩
theorem begins(w0 w:World)(c:Nat)(a:Option Addr)(len cap:Nat)(hl:len≤1048576)(hcode:CodeAt w0 a len)(h:Cur w0 w c a len cap):
  Calls Tryz.prog 28 #[.pointer (some ⟨c,0,none⟩)] w fun e w'=>∃(g n cp:Nat) (vs:List Value),e= .returned (.slice (some ⟨g,0,none⟩) n cp)∧n≤14∧Lc w0 w w' c a len cap g n cp vs:=by
 have F:=zh (first w0 w _ _ _ _ _ _ _ _ _ _ c a len cap h rfl rfl rfl rfl rfl rfl rfl rfl rfl rfl)
 have HD:=zh hcode
 clear hcode h
 go_enter Tryz.func28,Tryz.ntmps28
 go_wp2_with (first|(at_builtin;refine wp_app2 _ 37 26 (.agg #[.int .i64 0,.slice none 0 0]) 32 Tryz.underlying37 infoC rfl (by decide) rfl _ _ rfl w.heap.size (w.heap.size+1+1+1+1+1) 5 5 3 [.int .i64 1,.slice (some ⟨w.heap.size,0,none⟩) 2 2,.int .i64 1,.slice (some ⟨w.heap.size+1,0,none⟩) 2 2,.int .i64 1,.slice (some ⟨w.heap.size+1+1,0,none⟩) 2 2,.int .i64 1,.slice (some ⟨w.heap.size+1+1+1,0,none⟩) 2 2,.int .i64 1,.slice (some ⟨w.heap.size+1+1+1+1,0,none⟩) 2 2] [.int .i64 2,.slice (some ⟨w.heap.size+1+1+1+1+1+1,0,none⟩) 2 2,.int .i64 2,.slice (some ⟨w.heap.size+1+1+1+1+1+1+1,0,none⟩) 2 2,.int .i64 2,.slice (some ⟨w.heap.size+1+1+1+1+1+1+1+1,0,none⟩) 2 2] (w.heap.size+1+1+1+1+1+1+1+1+1) 3 rfl rfl (zu F).1.rr rfl (zu F).2.2 (by simp[Value.oneCell']) (by omega) (zu F).1.mv.2.1 ?_)|go_in)
 intro g5 c5 W5 o5 gr5 loc5
 have L:=zh ((zu F).1.app gr5 o5 (zu F).2.1)
 clear o5 gr5 loc5 F
 go_wp2
 go_loopw [3,4] (fun l i wr=>∃(g n cp k:Nat) (vs:List Value),l= .slice (some ⟨g,0,none⟩) n cp∧i= .int .i64 k∧k≤3∧n≤8+2*k∧Hid (Lc w0 w wr c a len cap g n cp vs)) (fun _ i _=>3-(intOf i).toNat)
 case atStart=>exact⟨g5,8,c5,0,_,rfl,rfl,by omega,by omega,L⟩
 case round=>
  clear L
  obtain⟨g,n,cp,k,vs,rfl,rfl,hk,nk,L⟩:=hrel
  by_cases t:k<3
  case neg=>
   have tn:¬(k:Int)<3:=by omega
   go_wp2
   go_ret
   first|exact⟨g,n,cp,vs,rfl,by omega,zu L⟩|exact⟨g,n,cp,rfl,by omega,vs,zu L⟩
  have tn:(k:Int)<3:=by omega
  have hc:=(zu L).hc
  have wz:=(zu L).mv.2.1
  have L1:=zh ((zu L).bel (one_more wr (.cells #[.int .i64 2,.int .i64 3,.int .i64 5] 3)))
  go_wp2_with fail
  refine(pick w0 _ c a len cap wr.heap.size 3 (of3 2 3 5) hl (zu HD) (zu L1).mv.1 (by decide) (by decide) (by simp) (by omega) (of3_cells wr _ 2 3 5)).mono ?_
  rintro e u1 ⟨⟨j,_,rfl⟩,m1⟩
  have L2:=zh ((zu L1).mov m1)
  generalize of3 2 3 5 j=hh
  clear m1 L L1
  go_wp2_with fail
  refine(below w0 _ c a len cap 90 hl (zu HD) (zu L2).mv.1 (by decide)).mono ?_
  rintro e u2 ⟨⟨b1,b1a,b1b,rfl⟩,m1⟩
  have L3:=zh ((zu L2).mov m1)
  have b1q:IntKind.i64.wrap (10+b1)=10+b1:=by rw[IntKind.wrap_i64];omega
  have b1w:wrap64 (10+b1)=10+b1:=by rw[wrap64];omega
  clear m1 L2
  go_wp2_with fail
  refine(below w0 _ c a len cap 900 hl (zu HD) (zu L3).mv.1 (by decide)).mono ?_
  rintro e u3 ⟨⟨b2,b2a,b2b,rfl⟩,m1⟩
  have L4:=zh ((zu L3).mov m1)
  clear m1 L3
  have uz:=(zu L4).mv.2.1
  have K1:=zh (show Co (u3.alloc (.cells #[.int .i64 1,.int .i64 hh,.int .i64 2,.int .i64 (10+b1),.int .i64 b2] 3)) c (.int .i64 3) (.slice (some ⟨u3.heap.size,0,none⟩) 5 5) from⟨3,_,5,5,_,rfl,rfl,by decide,by omega,own5 (Nat.zero_le _) rfl⟩)
  have L5:=zh ((zu L4).bel (one_more u3 (.cells #[.int .i64 1,.int .i64 hh,.int .i64 2,.int .i64 (10+b1),.int .i64 b2] 3)))
  have z5:(u3.alloc (.cells #[.int .i64 1,.int .i64 hh,.int .i64 2,.int .i64 (10+b1),.int .i64 b2] 3)).heap.size=u3.heap.size+1:=by simp
  have P5:=zh (of3_cells (u3.alloc (.cells #[.int .i64 1,.int .i64 hh,.int .i64 2,.int .i64 (10+b1),.int .i64 b2] 3)) 3 2 3 5)
  rw[z5] at P5
  have bq:=one_more (u3.alloc (.cells #[.int .i64 1,.int .i64 hh,.int .i64 2,.int .i64 (10+b1),.int .i64 b2] 3)) (.cells #[.int .i64 2,.int .i64 3,.int .i64 5] 3)
  have K2:=zh ((zu K1).below bq)
  have L6:=zh ((zu L5).bel bq)
  clear bq K1 L4 L5
  go_wp2_with fail
  refine(pick w0 _ c a len cap (u3.heap.size+1) 3 (of3 2 3 5) hl (zu HD) (zu L6).mv.1 (by decide) (by decide) (by simp) (by omega) (zu P5)).mono ?_
  rintro e u4 ⟨⟨j,_,rfl⟩,m1⟩
  have L7:=zh ((zu L6).mov m1)
  have K3:=zh ((zu K2).only m1.2)
  generalize of3 2 3 5 j=h2
  clear m1 L6 K2 P5
  go_wp2_with fail
  refine(below w0 _ c a len cap 5000 hl (zu HD) (zu L7).mv.1 (by decide)).mono ?_
  rintro e u5 ⟨⟨b3,b3a,b3b,rfl⟩,m1⟩
  have L8:=zh ((zu L7).mov m1)
  have K4:=zh ((zu K3).only m1.2)
  have b3q:IntKind.i64.wrap (100+b3)=100+b3:=by rw[IntKind.wrap_i64];omega
  have b3w:wrap64 (100+b3)=100+b3:=by rw[wrap64];omega
  clear m1 L7 K3
  have uz5:=(zu L8).mv.2.1
  have bq:=one_more u5 (.cells #[.int .i64 1,.int .i64 h2,.int .i64 1,.int .i64 (100+b3),.int .i64 0] 3)
  have z6:(u5.alloc (.cells #[.int .i64 1,.int .i64 h2,.int .i64 1,.int .i64 (100+b3),.int .i64 0] 3)).heap.size=u5.heap.size+1:=by simp
  have br:=one_more (u5.alloc (.cells #[.int .i64 1,.int .i64 h2,.int .i64 1,.int .i64 (100+b3),.int .i64 0] 3)) (.cells #[.int .i64 3,.slice (some ⟨u3.heap.size,0,none⟩) 5 5,.int .i64 3,.slice (some ⟨u5.heap.size,0,none⟩) 5 5] 26)
  have K5:=zh (show Co _ c (.int .i64 3) (.slice (some ⟨u5.heap.size,0,none⟩) 5 5) from Co.below (w:=u5.alloc (.cells #[.int .i64 1,.int .i64 h2,.int .i64 1,.int .i64 (100+b3),.int .i64 0] 3)) ⟨3,_,5,5,_,rfl,rfl,by decide,by omega,own5 (Nat.zero_le _) rfl⟩ br)
  have K6:=zh (((zu K4).below bq).below br)
  have L9:=zh (((zu L8).bel bq).bel br)
  have P9:=zh (four_at (u5.alloc (.cells #[.int .i64 1,.int .i64 h2,.int .i64 1,.int .i64 (100+b3),.int .i64 0] 3)) (.int .i64 3) (.slice (some ⟨u3.heap.size,0,none⟩) 5 5) (.int .i64 3) (.slice (some ⟨u5.heap.size,0,none⟩) 5 5) (t:=26))
  rw[z6] at P9
  clear bq br K4 L8
  go_wp2_with (first|(at_builtin;refine wp_app2 _ 37 26 (.agg #[.int .i64 0,.slice none 0 0]) 32 Tryz.underlying37 infoC rfl (by decide) rfl _ _ rfl w.heap.size g n cp 2 vs [.int .i64 3,.slice (some ⟨u3.heap.size,0,none⟩) 5 5,.int .i64 3,.slice (some ⟨u5.heap.size,0,none⟩) 5 5] (u5.heap.size+1) 2 rfl rfl (zu L9).rr rfl (zu P9) (by simp[Value.oneCell']) (by omega) (zu L9).mv.2.1 ?_)|go_in)
  intro g7 c7 W7 o7 gr7 loc7
  have LA:=zh ((zu L9).app gr7 o7 (.cons (zu K6) (.one (zu K5))))
  clear o7 gr7 loc7 L9 K5 K6 P9
  go_wp2
  go_roundw
  case rel=>exact⟨g7,n+2,c7,k+1,_,rfl,by go_num,by omega,by omega,LA⟩
  case measure=>simp[intOf];omega
end DrawR12
namespace DrawW12
open BMem Bks Ans WkB12 SApp12 Draw Draw11 DrawN12 DrawX12 SRun12 DrawR12
open SIssue (off_box row_ne)
open BHelp (row_block)
theorem one_more(w:World)(o:Obj):Below w.heap.size w (w.alloc o):=(Below.refl _ _).alloc (Nat.le_refl _) o
theorem ow_off{W:World}{N c:Nat}{z:Bx}(h:Ow W N z)(hc:c<N):Off z c:=
 ⟨by have:=h.oa.lt;omega,by have:=h.oi.lt;omega,by have:=h.ob.lt;omega,by have:=h.ol.lt;omega,by have:=h.ot.lt;omega⟩
theorem ow_only{W W':World}{N c:Nat}{z:Bx}(h:Ow W N z)(k:Only c W W')(hc:c<N):Ow W' N z:=
 ⟨row_block h.oa (k.2 _ h.oa.lt.2 (ow_off h hc).1),row_block h.oi (k.2 _ h.oi.lt.2 (ow_off h hc).2.1),row_block h.ob (k.2 _ h.ob.lt.2 (ow_off h hc).2.2.1),row_block h.ol (k.2 _ h.ol.lt.2 (ow_off h hc).2.2.2.1),row_block h.ot (k.2 _ h.ot.lt.2 (ow_off h hc).2.2.2.2)⟩
theorem ow_cmd{w W':World}{base base' gR cR i:Nat}{z:Bx}{rv:List Value}(h:Ow w base z)(k:w.grownBy W' (some gR))(r:w.ownsRow base' 26 2 (.slice (some ⟨gR,0,none⟩) i cR) i rv):Ow W' base z:=
 ⟨row_block h.oa (k.block _ h.oa.lt.2 (fun e=>row_ne h.oa r (by decide) (by injection e))),row_block h.oi (k.block _ h.oi.lt.2 (fun e=>row_ne h.oi r (by decide) (by injection e))),row_block h.ob (k.block _ h.ob.lt.2 (fun e=>row_ne h.ob r (by decide) (by injection e))),row_block h.ol (k.block _ h.ol.lt.2 (fun e=>row_ne h.ol r (by decide) (by injection e))),row_block h.ot (k.block _ h.ot.lt.2 (fun e=>row_ne h.ot r (by decide) (by injection e)))⟩
theorem box_only{W W':World}{N c g:Nat}{v0 v1 v2 v3 v4 v5:Value}(h:Box W N g v0 v1 v2 v3 v4 v5)(k:Only c W W')(hc:c<N):Box W' N g v0 v1 v2 v3 v4 v5:=row_block h (k.2 _ h.lt.2 (by have:=h.lt;omega))
theorem row_base{W:World}{base base' g n cp m k:Nat}{e:TypeId}{rv:List Value}(h:W.ownsRow base e m (.slice (some ⟨g,0,none⟩) n cp) k rv)(hb:base'≤base):W.ownsRow base' e m (.slice (some ⟨g,0,none⟩) n cp) k rv:=by
 refine⟨h.1,?_⟩
 rcases h.2 with q|⟨g',c',cur,h1,h2,h3⟩
 ·exact .inl q
 ·exact .inr ⟨g',c',cur,h1,Nat.le_trans hb h2,h3⟩
structure Rx(w0 w W:World)(c:Nat)(a:Option Addr)(len cap p7:Nat)(z:Bx)(g n cp:Nat)(vs:List Value):Prop where
 l:Lc w0 w W c a len cap g n cp vs
 o5:Box W w.heap.size w.heap.size (.slice none 0 0) (.slice none 0 0) (.slice none 0 0) (.slice none 0 0) (.slice none 0 0) (.int .i64 0)
 o7:Box W w.heap.size p7 (.slice (some ⟨z.ga,0,none⟩) z.b.ac.length z.ca) (.slice (some ⟨z.gi,0,none⟩) z.b.ic.length z.ci) (.slice (some ⟨z.gb,0,none⟩) z.b.bs.length z.cb) (.slice (some ⟨z.gl,0,none⟩) z.b.ls.length z.cl) (.slice (some ⟨z.gt,0,none⟩) z.b.ts.length z.ct) (.int .i64 z.b.lot)
 oz:Ow W w.heap.size z
 sm:Small z.b
 ne:p7≠w.heap.size
section
variable {w0 w W W':World} {c:Nat} {a:Option Addr} {len cap p7:Nat} {z z2:Bx} {g n cp:Nat} {vs:List Value}
theorem Rx.bel(h:Rx w0 w W c a len cap p7 z g n cp vs)(k:Below W.heap.size W W'):Rx w0 w W' c a len cap p7 z g n cp vs:=
 ⟨h.l.bel k,h.o5.below k h.o5.lt.2,h.o7.below k h.o7.lt.2,h.oz.below k (Nat.le_refl _),h.sm,h.ne⟩
theorem Rx.mov(h:Rx w0 w W c a len cap p7 z g n cp vs)(k:Moved w0 W W' c a len cap):Rx w0 w W' c a len cap p7 z g n cp vs:=
 ⟨h.l.mov k,box_only h.o5 k.2 h.l.hc,box_only h.o7 k.2 h.l.hc,ow_only h.oz k.2 h.l.hc,h.sm,h.ne⟩
theorem Rx.app{g' n' c':Nat}{ys:List Value}(h:Rx w0 w W c a len cap p7 z g n cp vs)(k:W.grownBy W' (some g))(o:W'.ownsRow w.heap.size 26 2 (.slice (some ⟨g',0,none⟩) n' c') n' (vs++ys))(q:Cos W c ys):Rx w0 w W' c a len cap p7 z g' n' c' (vs++ys):=
 ⟨h.l.app k o q,h.o5.kept k (fun e=>row_ne h.o5 h.l.rr (by decide) (by injection e)),h.o7.kept k (fun e=>row_ne h.o7 h.l.rr (by decide) (by injection e)),ow_cmd h.oz k h.l.rr,h.sm,h.ne⟩
theorem Rx.next(h:Rx w0 w W c a len cap p7 z g n cp vs)(o:Ow W w.heap.size z2)(s:Small z2.b):Rx w0 w ((((((W.setCell ⟨p7,0,none⟩ (.slice (some ⟨z2.ga,0,none⟩) z2.b.ac.length z2.ca)).setCell ⟨p7,1,none⟩ (.slice (some ⟨z2.gi,0,none⟩) z2.b.ic.length z2.ci)).setCell ⟨p7,2,none⟩ (.slice (some ⟨z2.gb,0,none⟩) z2.b.bs.length z2.cb)).setCell ⟨p7,3,none⟩ (.slice (some ⟨z2.gl,0,none⟩) z2.b.ls.length z2.cl)).setCell ⟨p7,4,none⟩ (.slice (some ⟨z2.gt,0,none⟩) z2.b.ts.length z2.ct)).setCell ⟨p7,5,none⟩ (.int .i64 z2.b.lot)) c a len cap p7 z2 g n cp vs:=by
 obtain⟨b,q⟩:=box_six h.o7 (.slice (some ⟨z2.ga,0,none⟩) z2.b.ac.length z2.ca) (.slice (some ⟨z2.gi,0,none⟩) z2.b.ic.length z2.ci) (.slice (some ⟨z2.gb,0,none⟩) z2.b.bs.length z2.cb) (.slice (some ⟨z2.gl,0,none⟩) z2.b.ls.length z2.cl) (.slice (some ⟨z2.gt,0,none⟩) z2.b.ts.length z2.ct) (.int .i64 z2.b.lot)
 have mg:Moved w0 w ((((((W.setCell ⟨p7,0,none⟩ (.slice (some ⟨z2.ga,0,none⟩) z2.b.ac.length z2.ca)).setCell ⟨p7,1,none⟩ (.slice (some ⟨z2.gi,0,none⟩) z2.b.ic.length z2.ci)).setCell ⟨p7,2,none⟩ (.slice (some ⟨z2.gb,0,none⟩) z2.b.bs.length z2.cb)).setCell ⟨p7,3,none⟩ (.slice (some ⟨z2.gl,0,none⟩) z2.b.ls.length z2.cl)).setCell ⟨p7,4,none⟩ (.slice (some ⟨z2.gt,0,none⟩) z2.b.ts.length z2.ct)).setCell ⟨p7,5,none⟩ (.int .i64 z2.b.lot)) c a len cap:=moved_grown h.l.mv q h.l.hc h.o7.lt.1 h.l.h0
 have ge:=h.l.ge
 have gn:g≠p7:=row_ne h.l.rr h.o7 (by decide)
 refine⟨⟨mg,h.l.hc,row_block h.l.rr (q.block _ ge.2 (fun e=>gn (by injection e))),h.l.co.map (fun _ _ hq=>hq.blk (fun g' n' c' xs _ ow=>q.block g' ow.lt.2 (fun e=>row_ne ow h.o7 (by decide) (by injection e)))),h.l.h0⟩,h.o5.kept q (fun e=>h.ne (by injection e with e;exact e.symm)),b,ow_six o (off_box o h.o7) _ _ _ _ _ _,s,h.ne⟩
theorem Rx.fin(h:Rx w0 w W c a len cap p7 z g n cp vs):Box ((((((W.setCell ⟨w.heap.size,0,none⟩ (.slice (some ⟨z.ga,0,none⟩) z.b.ac.length z.ca)).setCell ⟨w.heap.size,1,none⟩ (.slice (some ⟨z.gi,0,none⟩) z.b.ic.length z.ci)).setCell ⟨w.heap.size,2,none⟩ (.slice (some ⟨z.gb,0,none⟩) z.b.bs.length z.cb)).setCell ⟨w.heap.size,3,none⟩ (.slice (some ⟨z.gl,0,none⟩) z.b.ls.length z.cl)).setCell ⟨w.heap.size,4,none⟩ (.slice (some ⟨z.gt,0,none⟩) z.b.ts.length z.ct)).setCell ⟨w.heap.size,5,none⟩ (.int .i64 z.b.lot)) w.heap.size w.heap.size (.slice (some ⟨z.ga,0,none⟩) z.b.ac.length z.ca) (.slice (some ⟨z.gi,0,none⟩) z.b.ic.length z.ci) (.slice (some ⟨z.gb,0,none⟩) z.b.bs.length z.cb) (.slice (some ⟨z.gl,0,none⟩) z.b.ls.length z.cl) (.slice (some ⟨z.gt,0,none⟩) z.b.ts.length z.ct) (.int .i64 z.b.lot)∧Ow ((((((W.setCell ⟨w.heap.size,0,none⟩ (.slice (some ⟨z.ga,0,none⟩) z.b.ac.length z.ca)).setCell ⟨w.heap.size,1,none⟩ (.slice (some ⟨z.gi,0,none⟩) z.b.ic.length z.ci)).setCell ⟨w.heap.size,2,none⟩ (.slice (some ⟨z.gb,0,none⟩) z.b.bs.length z.cb)).setCell ⟨w.heap.size,3,none⟩ (.slice (some ⟨z.gl,0,none⟩) z.b.ls.length z.cl)).setCell ⟨w.heap.size,4,none⟩ (.slice (some ⟨z.gt,0,none⟩) z.b.ts.length z.ct)).setCell ⟨w.heap.size,5,none⟩ (.int .i64 z.b.lot)) w.heap.size z∧Moved w0 w ((((((W.setCell ⟨w.heap.size,0,none⟩ (.slice (some ⟨z.ga,0,none⟩) z.b.ac.length z.ca)).setCell ⟨w.heap.size,1,none⟩ (.slice (some ⟨z.gi,0,none⟩) z.b.ic.length z.ci)).setCell ⟨w.heap.size,2,none⟩ (.slice (some ⟨z.gb,0,none⟩) z.b.bs.length z.cb)).setCell ⟨w.heap.size,3,none⟩ (.slice (some ⟨z.gl,0,none⟩) z.b.ls.length z.cl)).setCell ⟨w.heap.size,4,none⟩ (.slice (some ⟨z.gt,0,none⟩) z.b.ts.length z.ct)).setCell ⟨w.heap.size,5,none⟩ (.int .i64 z.b.lot)) c a len cap∧Box ((((((W.setCell ⟨w.heap.size,0,none⟩ (.slice (some ⟨z.ga,0,none⟩) z.b.ac.length z.ca)).setCell ⟨w.heap.size,1,none⟩ (.slice (some ⟨z.gi,0,none⟩) z.b.ic.length z.ci)).setCell ⟨w.heap.size,2,none⟩ (.slice (some ⟨z.gb,0,none⟩) z.b.bs.length z.cb)).setCell ⟨w.heap.size,3,none⟩ (.slice (some ⟨z.gl,0,none⟩) z.b.ls.length z.cl)).setCell ⟨w.heap.size,4,none⟩ (.slice (some ⟨z.gt,0,none⟩) z.b.ts.length z.ct)).setCell ⟨w.heap.size,5,none⟩ (.int .i64 z.b.lot)) w.heap.size p7 (.slice (some ⟨z.ga,0,none⟩) z.b.ac.length z.ca) (.slice (some ⟨z.gi,0,none⟩) z.b.ic.length z.ci) (.slice (some ⟨z.gb,0,none⟩) z.b.bs.length z.cb) (.slice (some ⟨z.gl,0,none⟩) z.b.ls.length z.cl) (.slice (some ⟨z.gt,0,none⟩) z.b.ts.length z.ct) (.int .i64 z.b.lot):=by
 obtain⟨o,q⟩:=box_six h.o5 (.slice (some ⟨z.ga,0,none⟩) z.b.ac.length z.ca) (.slice (some ⟨z.gi,0,none⟩) z.b.ic.length z.ci) (.slice (some ⟨z.gb,0,none⟩) z.b.bs.length z.cb) (.slice (some ⟨z.gl,0,none⟩) z.b.ls.length z.cl) (.slice (some ⟨z.gt,0,none⟩) z.b.ts.length z.ct) (.int .i64 z.b.lot)
 exact⟨o,ow_six h.oz (off_box h.oz h.o5) _ _ _ _ _ _,moved_grown h.l.mv q h.l.hc (Nat.le_refl _) h.l.h0,h.o7.kept q (fun e=>h.ne (by injection e))⟩
theorem Lc.cells(h:Lc w0 w W c a len cap g n cp vs):∀j v,vs[j]?=some v→W.cell? ⟨g,j,none⟩=some v:=fun j v hj=>by
 have hk:=(List.getElem?_eq_some_iff.1 hj).1
 have:=h.len2
 rw[World.ownsRow.cellAt h.rr j (by omega)]
 exact hj
end
theorem six_dr{W:World}{N p:Nat}{z:Bx}(h:Box W N p (.slice (some ⟨z.ga,0,none⟩) z.b.ac.length z.ca) (.slice (some ⟨z.gi,0,none⟩) z.b.ic.length z.ci) (.slice (some ⟨z.gb,0,none⟩) z.b.bs.length z.cb) (.slice (some ⟨z.gl,0,none⟩) z.b.ls.length z.cl) (.slice (some ⟨z.gt,0,none⟩) z.b.ts.length z.ct) (.int .i64 z.b.lot)):W.drew.cell? ⟨p,0,none⟩=some (.slice (some ⟨z.ga,0,none⟩) z.b.ac.length z.ca)∧W.drew.cell? ⟨p,1,none⟩=some (.slice (some ⟨z.gi,0,none⟩) z.b.ic.length z.ci)∧W.drew.cell? ⟨p,2,none⟩=some (.slice (some ⟨z.gb,0,none⟩) z.b.bs.length z.cb)∧W.drew.cell? ⟨p,3,none⟩=some (.slice (some ⟨z.gl,0,none⟩) z.b.ls.length z.cl)∧W.drew.cell? ⟨p,4,none⟩=some (.slice (some ⟨z.gt,0,none⟩) z.b.ts.length z.ct)∧W.drew.cell? ⟨p,5,none⟩=some (.int .i64 z.b.lot):=⟨h.c0,h.c1,h.c2,h.c3,h.c4,h.c5⟩
theorem six_c{W:World}{N p:Nat}{z:Bx}(h:Box W N p (.slice (some ⟨z.ga,0,none⟩) z.b.ac.length z.ca) (.slice (some ⟨z.gi,0,none⟩) z.b.ic.length z.ci) (.slice (some ⟨z.gb,0,none⟩) z.b.bs.length z.cb) (.slice (some ⟨z.gl,0,none⟩) z.b.ls.length z.cl) (.slice (some ⟨z.gt,0,none⟩) z.b.ts.length z.ct) (.int .i64 z.b.lot)):W.cell? ⟨p,0,none⟩=some (.slice (some ⟨z.ga,0,none⟩) z.b.ac.length z.ca)∧W.cell? ⟨p,1,none⟩=some (.slice (some ⟨z.gi,0,none⟩) z.b.ic.length z.ci)∧W.cell? ⟨p,2,none⟩=some (.slice (some ⟨z.gb,0,none⟩) z.b.bs.length z.cb)∧W.cell? ⟨p,3,none⟩=some (.slice (some ⟨z.gl,0,none⟩) z.b.ls.length z.cl)∧W.cell? ⟨p,4,none⟩=some (.slice (some ⟨z.gt,0,none⟩) z.b.ts.length z.ct)∧W.cell? ⟨p,5,none⟩=some (.int .i64 z.b.lot):=⟨h.c0,h.c1,h.c2,h.c3,h.c4,h.c5⟩
section
variable {P:Program} {ops:Array Oper} {Q:Exit→Act→World→Prop} {md:Region.Mode} {S:World→Prop} {fuel:Nat} {listed:Array Bool} {a:Act} {w:World}
theorem tk(i:Nat){oi:Oper}(v:Value)(hi:ops[i]?=some oi)(hb:(Region.noSelect ops&&(Region.free md ops listed i&&(Region.ready md ops listed).contains i))=true)(hQ:∀c a w,Q (.panic c) (a.put oi.dst v) w→Q (.panic c) a w)(hw:Region.wanted oi (yielded ops a.tmps)=true)(hS:S w)(hy:∀w,S w→(execOp a.eval oi).run P w= .ok (.value v) w)(h:wpAnyH P md ops Q S fuel (listed.setIfInBounds i true) (a.put oi.dst v) w):wpAnyH P md ops Q S (fuel+1) listed a w:=by
 rw[Bool.and_eq_true,Bool.and_eq_true] at hb
 exact wpAnyH_take hi hb.1 hb.2.1 hb.2.2 hQ (.inl ⟨hw,hy⟩) hS h
end
theorem zA{α:Type}(l:List α)(i:Nat)(x:α):l.toArray.setIfInBounds i x=(l.set i x).toArray:=List.setIfInBounds_toArray ..
theorem zB{α:Type}(x y:α)(l:List α):(x::l).set 0 y=y::l:=rfl
theorem zC{α:Type}(x y:α)(l:List α)(n:Nat):(x::l).set (n+1) y=x::l.set n y:=rfl
def RowT(w0 w:World)(c:Nat)(a:Option Addr)(len cap:Nat)(e:Ending)(w':World):Prop:=
 ∃(z:Bx) (lv:Value),e= .returned (.tuple #[lv,.agg #[.slice (some ⟨z.ga,0,none⟩) z.b.ac.length z.ca,.slice (some ⟨z.gi,0,none⟩) z.b.ic.length z.ci,.slice (some ⟨z.gb,0,none⟩) z.b.bs.length z.cb,.slice (some ⟨z.gl,0,none⟩) z.b.ls.length z.cl,.slice (some ⟨z.gt,0,none⟩) z.b.ts.length z.ct,.int .i64 z.b.lot]])∧Ow w' w.heap.size z∧Small z.b∧Moved w0 w w' c a len cap
theorem row(w0 w:World)(c:Nat)(a:Option Addr)(len cap:Nat)(most:Int)(m0:0≤most)(m1:most≤100)(hl:len≤1048576)(hcode:CodeAt w0 a len)(h:Cur w0 w c a len cap):
  Calls Tryz.prog 14 #[.pointer (some ⟨c,0,none⟩),.int .i64 most] w (RowT w0 w c a len cap):=by
 have s1:(w.alloc (.cells #[.slice none 0 0,.slice none 0 0,.slice none 0 0,.slice none 0 0,.slice none 0 0,.int .i64 0] 44)).heap.size=w.heap.size+1:=by simp
 have b1:=one_more w (.cells #[.slice none 0 0,.slice none 0 0,.slice none 0 0,.slice none 0 0,.slice none 0 0,.int .i64 0] 44)
 have b2:=one_more (w.alloc (.cells #[.slice none 0 0,.slice none 0 0,.slice none 0 0,.slice none 0 0,.slice none 0 0,.int .i64 0] 44)) (.cells #[] 26)
 have b12:=b1.trans (b2.mono (by omega))
 have L0:=zh (show Lc w0 w ((w.alloc (.cells #[.slice none 0 0,.slice none 0 0,.slice none 0 0,.slice none 0 0,.slice none 0 0,.int .i64 0] 44)).alloc (.cells #[] 26)) c a len cap (w.heap.size+1) 0 0 [] from⟨moved_below (moved_start h) b12,h.hi,by have r:=World.ownsRow_lit (base:=w.heap.size) (e:=26) (size:=2) (w.alloc (.cells #[.slice none 0 0,.slice none 0 0,.slice none 0 0,.slice none 0 0,.slice none 0 0,.int .i64 0] 44)) #[] 0 (by omega) (by decide) rfl;rw[s1] at r;exact r,Cos.nil,h.bel.size⟩)
 have O0:=zh (show Box ((w.alloc (.cells #[.slice none 0 0,.slice none 0 0,.slice none 0 0,.slice none 0 0,.slice none 0 0,.int .i64 0] 44)).alloc (.cells #[] 26)) w.heap.size w.heap.size (.slice none 0 0) (.slice none 0 0) (.slice none 0 0) (.slice none 0 0) (.slice none 0 0) (.int .i64 0) from(Zero12.nil_box w).below b2 (by omega))
 have HD:=zh hcode
 have mw:IntKind.i64.wrap (most+1)=most+1:=by rw[IntKind.wrap_i64];omega
 have mx:wrap64 (most+1)=most+1:=by rw[wrap64];omega
 clear h hcode b1 b2 b12 s1
 go_enter Tryz.func14,Tryz.ntmps14
 go_wp2_with fail
 refine(once w0 _ c a len cap 6 hl (zu HD) (zu L0).mv.1 (by decide)).mono ?_
 rintro e u1 ⟨⟨bo,rfl⟩,mv1⟩
 have L1:=zh ((zu L0).mov mv1)
 have O1:=zh (box_only (zu O0) mv1.2 (zu L0).hc)
 clear mv1 L0 O0
 have REST:∀(g n cp:Nat) (vs:List Value) (U:World),n≤14→Hid (Lc w0 w U c a len cap g n cp vs)→Hid (Box U w.heap.size w.heap.size (.slice none 0 0) (.slice none 0 0) (.slice none 0 0) (.slice none 0 0) (.slice none 0 0) (.int .i64 0))→True:=fun _ _ _ _ _ _ _ _=>trivial
 clear REST
 cases bo with
 |true=>
  go_wp2_with fail
  refine(Zero12.new0 _).mono ?_
  rintro e u3 ⟨rfl,bb⟩
  have L3:=zh ((zu L1).bel bb)
  have O3:=zh ((zu O1).below bb (zu O1).lt.2)
  clear bb L1 O1
  go_wp2_with fail
  refine(sRun _ c (w.heap.size+1) 0 0 [] (zu L3).len2 (by omega) (zu L3).ge.2 (Lc.cells (zu L3)) (zu L3).co.cs).mono ?_
  rintro e u4 ⟨z,rv,rfl,ow,sm,bb⟩
  have wz:=(zu L3).mv.2.1
  have uz:=bb.size
  have X:=zh (show Rx w0 w (u4.alloc (.cells #[.slice (some ⟨z.ga,0,none⟩) z.b.ac.length z.ca,.slice (some ⟨z.gi,0,none⟩) z.b.ic.length z.ci,.slice (some ⟨z.gb,0,none⟩) z.b.bs.length z.cb,.slice (some ⟨z.gl,0,none⟩) z.b.ls.length z.cl,.slice (some ⟨z.gt,0,none⟩) z.b.ts.length z.ct,.int .i64 z.b.lot] 44)) c a len cap u4.heap.size z (w.heap.size+1) 0 0 [] from
   ⟨((zu L3).bel bb).bel (one_more _ _),((zu O3).below bb (zu O3).lt.2).below (one_more _ _) (by have:=(zu O3).lt.2;omega),Box.made _ _ _ _ _ _ (by omega) rfl,(ow.below (one_more _ _) (Nat.le_refl _)).rebase wz,sm,by have:=(zu O3).lt.2;omega⟩)
  clear ow sm bb L3 O3
  go_wp2_with fail
  refine(below w0 _ c a len cap (most+1) hl (zu HD) (zu X).l.mv.1 (by omega)).mono ?_
  rintro e u5 ⟨⟨m,ma,mb,rfl⟩,mv1⟩
  replace X:=zh ((zu X).mov mv1)
  clear mv1
  obtain⟨mn,rfl⟩:=Int.eq_ofNat_of_zero_le ma
  go_wp2
  generalize u4.heap.size=p7 at *
  go_loopw [6,10] (fun l i wr=>∃(z:Bx) (g n cp k:Nat) (vs:List Value),l= .slice (some ⟨g,0,none⟩) n cp∧i= .int .i64 k∧k≤mn∧n≤14+k∧Hid (Rx w0 w wr c a len cap p7 z g n cp vs)) (fun _ i _=>mn-(intOf i).toNat)
  case atStart=>exact⟨z,(w.heap.size+1),0,0,0,[],rfl,rfl,by omega,by omega,X⟩
  case round=>
   clear X
   obtain⟨z,g,n,cp,k,vs,rfl,rfl,hk,nk,X⟩:=hrel
   obtain⟨-,-,-,-,-,-,c0,c1,c2,c3,c4,c5⟩:=box_opn (zu X).o7
   by_cases t:k<mn
   case neg=>
    have tn:¬(k:Int)<mn:=by omega
    obtain⟨f0,f1,f2,f3,f4,f5,d0,d1,d2,d3,d4,d5⟩:=box_opn (zu X).o5
    have F:=zh (zu X).fin
    have SM:=zh (zu X).sm
    go_wp2_with fail
    refine wp_region_held_drew (S:=(fun w'=>w'.cell? ⟨p7,0,none⟩=some (.slice (some ⟨z.ga,0,none⟩) z.b.ac.length z.ca)∧w'.cell? ⟨p7,1,none⟩=some (.slice (some ⟨z.gi,0,none⟩) z.b.ic.length z.ci)∧w'.cell? ⟨p7,2,none⟩=some (.slice (some ⟨z.gb,0,none⟩) z.b.bs.length z.cb)∧w'.cell? ⟨p7,3,none⟩=some (.slice (some ⟨z.gl,0,none⟩) z.b.ls.length z.cl)∧w'.cell? ⟨p7,4,none⟩=some (.slice (some ⟨z.gt,0,none⟩) z.b.ts.length z.ct)∧w'.cell? ⟨p7,5,none⟩=some (.int .i64 z.b.lot))) (by kernel_rfl) (six_c (zu X).o7) (fun hHeld=>?_)
    refine tk 0 (.slice (some ⟨g,0,none⟩) n cp) rfl (by kernel_rfl) (fun _ _ _ h=>h) (by rfl) hHeld (fun w hSw=>by go_simp) ?_
    refine tk 1 (.agg #[.slice (some ⟨z.ga,0,none⟩) z.b.ac.length z.ca,.slice (some ⟨z.gi,0,none⟩) z.b.ic.length z.ci,.slice (some ⟨z.gb,0,none⟩) z.b.bs.length z.cb,.slice (some ⟨z.gl,0,none⟩) z.b.ls.length z.cl,.slice (some ⟨z.gt,0,none⟩) z.b.ts.length z.ct,.int .i64 z.b.lot]) rfl (by kernel_rfl) (fun _ _ _ h=>h) (by rfl) hHeld (fun w hSw=>by go_simp) ?_
    refine tk 2 (.slice (some ⟨g,0,none⟩) n cp) rfl (by kernel_rfl) (fun _ _ _ h=>h) (by rfl) hHeld (fun w hSw=>by go_simp) ?_
    try simp only[Act.put,zA,zB,zC]
    refine wpAnyH_ready (rs:=[3]) (by kernel_rfl) (by simp) ?_
    refine AllReadyH.cons rfl (fun K hK=>?_) AllReadyH.nil
    go_simp
    refine hK.out _ _ (six_dr (zu F).2.2.2) (fun hHeld=>?_)
    clear hK K
    try simp only[Act.put,zA,zB,zC]
    try simp only[Act.put,zA,zB,zC]
    refine wpAnyH_done (by kernel_rfl) ?_ _
    go_wp2
    obtain⟨e0,e1,e2,e3,e4,e5⟩:=six_dr (zu F).1
    refine bodyPost_ret (v:= .tuple #[.slice (some ⟨g,0,none⟩) n cp,.agg #[.slice (some ⟨z.ga,0,none⟩) z.b.ac.length z.ca,.slice (some ⟨z.gi,0,none⟩) z.b.ic.length z.ci,.slice (some ⟨z.gb,0,none⟩) z.b.bs.length z.cb,.slice (some ⟨z.gl,0,none⟩) z.b.ls.length z.cl,.slice (some ⟨z.gt,0,none⟩) z.b.ts.length z.ct,.int .i64 z.b.lot]]) (by simp[results,Tryz.results14,go_sem,e0,e1,e2,e3,e4,e5]) rfl ?_
    exact⟨z,_,rfl,(zu F).2.1.below ((Below.refl _ _).drew) (Nat.le_refl _),zu SM,⟨(zu F).2.2.1.1.drew,(zu F).2.2.1.2.drew⟩⟩
   have tn:(k:Int)<mn:=by omega
   have hc:=(zu X).l.hc
   have wzr:=(zu X).l.mv.2.1
   go_wp2_with fail
   refine(next w0 wr c a len cap z hl (zu HD) (zu X).l.mv.1 ((zu X).oz.rd (zu X).sm) (ow_off (zu X).oz hc)).mono ?_
   rintro e u6 ⟨kd,gx,nx,cx,xs,rfl,ox,x1,x7,mv1⟩
   obtain rfl:=ox.len
   replace X:=zh ((zu X).mov mv1)
   have gl6:=(zu X).l.ge
   have wz6:=mv1.2.1
   have OX:=zh ox
   have wz7:=(zu X).l.mv.2.1
   have b7:=one_more u6 (.cells #[.int .i64 kd,.slice (some ⟨gx,0,none⟩) xs.length cx] 26)
   have s7:(u6.alloc (.cells #[.int .i64 kd,.slice (some ⟨gx,0,none⟩) xs.length cx] 26)).heap.size=u6.heap.size+1:=by simp
   have gl:=ox.lt
   have CX:=zh (show Co u6 c (.int .i64 kd) (.slice (some ⟨gx,0,none⟩) xs.length cx) from⟨kd,gx,xs.length,cx,xs,rfl,rfl,x7,by omega,ox.mono (Nat.zero_le _)⟩)
   have b8:=one_more (u6.alloc (.cells #[.int .i64 kd,.slice (some ⟨gx,0,none⟩) xs.length cx] 26)) (.cells #[.int .i64 kd,.slice (some ⟨gx,0,none⟩) xs.length cx] 26)
   have X8:=zh (((zu X).bel b7).bel b8)
   have CX8:=zh (((zu CX).below b7).below b8)
   have P8:=zh (two_at (u6.alloc (.cells #[.int .i64 kd,.slice (some ⟨gx,0,none⟩) xs.length cx] 26)) (.int .i64 kd) (.slice (some ⟨gx,0,none⟩) xs.length cx) (t:=26))
   rw[s7] at P8
   have K8:=zh (show K2 26 _ w.heap.size u6.heap.size (.int .i64 kd) (.slice (some ⟨gx,0,none⟩) xs.length cx) from K2.blk (K2.made (t:=26) (w:=u6) (base:=w.heap.size) _ _ wz7 rfl) (b8.block _ (by rw[s7];omega)))
   have O8:=zh (((zu OX).below b7 gl.2).below b8 (by rw[s7];omega))
   have gn:gx≠u6.heap.size:=by omega
   clear ox mv1 X CX b7 b8 OX c0 c1 c2 c3 c4 c5
   go_wp2_with (first|(at_builtin;refine wp_app2 _ 37 26 (.agg #[.int .i64 0,.slice none 0 0]) 32 Tryz.underlying37 infoC rfl (by decide) rfl _ _ rfl w.heap.size g n cp 1 vs [.int .i64 kd,.slice (some ⟨gx,0,none⟩) xs.length cx] (u6.heap.size+1) 1 rfl rfl (zu X8).l.rr rfl (zu P8) (by simp[Value.oneCell']) (by omega) (zu X8).l.mv.2.1 ?_)|go_in)
   intro g9 c9 u9 o9 gr9 loc9
   have gg:=(zu X8).l.ge
   have X9:=zh ((zu X8).app gr9 o9 (.one (zu CX8)))
   have gne:g≠u6.heap.size:=by omega
   have K9:=zh (K2.blk (zu K8) (gr9.block _ (zu K8).lt.2 (fun e=>gne (by injection e with e;exact e.symm))))
   have O9:=zh (show Ints.Own u9 wr.heap.size gx xs.length cx xs from row_block (zu O8) (gr9.block _ (zu O8).lt.2 (fun e=>row_ne (zu O8) (zu X8).l.rr (by decide) (by injection e))))
   clear o9 gr9 loc9 X8 CX8 P8 K8 O8
   obtain⟨-,-,-,-,-,-,c0,c1,c2,c3,c4,c5⟩:=box_opn (zu X9).o7
   obtain⟨-,-,k0,k1⟩:=(zu K9).opn
   go_wp2_with fail
   refine(sApply _ z kd gx cx xs (by omega) ((zu X9).oz.rd (zu X9).sm) (zu O9).lt.2 (zu O9).at).mono ?_
   rintro e u10 AP
   obtain⟨y,cd,tt,rfl,bb,wk⟩:=AP
   have X10:=zh ((zu X9).bel bb)
   have wz9:=(zu X9).l.mv.2.1
   obtain⟨f0,f1,f2,f3,f4,f5,d0,d1,d2,d3,d4,d5⟩:=box_opn (zu X10).o7
   have pl:=(zu X10).o7.lt.2
   clear X9 K9 O9 c0 c1 c2 c3 c4 c5 k0 k1 bb
   by_cases q:cd=0
   ·subst q
    obtain⟨z2,rfl,ow,sm⟩:∃z2:Bx,y=ofB z2∧Ow u10 u9.heap.size z2∧Small z2.b:=by
     rcases wk with h|h
     ·exact absurd rfl h
     ·exact h
    clear wk
    simp only[ofB]
    have NX:=zh ((((zu X10).next (ow.rebase wz9) sm).bel (one_more _ (.cells #[.slice (some ⟨z2.ga,0,none⟩) z2.b.ac.length z2.ca,.slice (some ⟨z2.gi,0,none⟩) z2.b.ic.length z2.ci,.slice (some ⟨z2.gb,0,none⟩) z2.b.bs.length z2.cb,.slice (some ⟨z2.gl,0,none⟩) z2.b.ls.length z2.cl,.slice (some ⟨z2.gt,0,none⟩) z2.b.ts.length z2.ct,.int .i64 z2.b.lot] 44))).bel (one_more _ (.cells #[.int .i64 0,.int .i64 tt] 75)))
    clear ow X10
    go_wp2
    go_roundw
    case rel=>exact⟨z2,g9,n+1,c9,k+1,_,rfl,by go_num,by omega,by omega,NX⟩
    case measure=>simp[intOf];omega
   ·have qb:(cd==0)=false:=by simpa using q
    have bA:=one_more u10 (.cells #[.slice y.aa y.b.ac.length y.ca,.slice y.ai y.b.ic.length y.ci,.slice y.ab y.b.bs.length y.cb,.slice y.al y.b.ls.length y.cl,.slice y.ats y.b.ts.length y.ct,.int .i64 y.b.lot] 44)
    have bB:=one_more (u10.alloc (.cells #[.slice y.aa y.b.ac.length y.ca,.slice y.ai y.b.ic.length y.ci,.slice y.ab y.b.bs.length y.cb,.slice y.al y.b.ls.length y.cl,.slice y.ats y.b.ts.length y.ct,.int .i64 y.b.lot] 44)) (.cells #[.int .i64 cd,.int .i64 tt] 75)
    have NX:=zh (((zu X10).bel bA).bel bB)
    clear bA bB X10 wk q
    go_wp2
    go_roundw
    case rel=>exact⟨z,g9,n+1,c9,k+1,_,rfl,by go_num,by omega,by omega,NX⟩
    case measure=>simp[intOf];omega
 |false=>
  go_wp2_with fail
  refine(begins w0 u1 c a len cap hl (zu HD) (zu L1).mv.1).mono ?_
  rintro e u2 ⟨g1,n1,cp1,vs1,rfl,n14,lc⟩
  have L2:=zh (show Lc w0 w u2 c a len cap g1 n1 cp1 vs1 from⟨(zu L1).mv.trans lc.mv,(zu L1).hc,row_base lc.rr (zu L1).mv.2.1,lc.co,(zu L1).h0⟩)
  have O2:=zh (box_only (zu O1) lc.mv.2 (zu L1).hc)
  clear lc L1 O1
  go_wp2_with fail
  refine(Zero12.new0 _).mono ?_
  rintro e u3 ⟨rfl,bb⟩
  have L3:=zh ((zu L2).bel bb)
  have O3:=zh ((zu O2).below bb (zu O2).lt.2)
  clear bb L2 O2
  go_wp2_with fail
  refine(sRun _ c g1 n1 cp1 vs1 (zu L3).len2 (by omega) (zu L3).ge.2 (Lc.cells (zu L3)) (zu L3).co.cs).mono ?_
  rintro e u4 ⟨z,rv,rfl,ow,sm,bb⟩
  have wz:=(zu L3).mv.2.1
  have uz:=bb.size
  have X:=zh (show Rx w0 w (u4.alloc (.cells #[.slice (some ⟨z.ga,0,none⟩) z.b.ac.length z.ca,.slice (some ⟨z.gi,0,none⟩) z.b.ic.length z.ci,.slice (some ⟨z.gb,0,none⟩) z.b.bs.length z.cb,.slice (some ⟨z.gl,0,none⟩) z.b.ls.length z.cl,.slice (some ⟨z.gt,0,none⟩) z.b.ts.length z.ct,.int .i64 z.b.lot] 44)) c a len cap u4.heap.size z g1 n1 cp1 vs1 from
   ⟨((zu L3).bel bb).bel (one_more _ _),((zu O3).below bb (zu O3).lt.2).below (one_more _ _) (by have:=(zu O3).lt.2;omega),Box.made _ _ _ _ _ _ (by omega) rfl,(ow.below (one_more _ _) (Nat.le_refl _)).rebase wz,sm,by have:=(zu O3).lt.2;omega⟩)
  clear ow sm bb L3 O3
  go_wp2_with fail
  refine(below w0 _ c a len cap (most+1) hl (zu HD) (zu X).l.mv.1 (by omega)).mono ?_
  rintro e u5 ⟨⟨m,ma,mb,rfl⟩,mv1⟩
  replace X:=zh ((zu X).mov mv1)
  clear mv1
  obtain⟨mn,rfl⟩:=Int.eq_ofNat_of_zero_le ma
  go_wp2
  generalize u4.heap.size=p7 at *
  go_loopw [6,10] (fun l i wr=>∃(z:Bx) (g n cp k:Nat) (vs:List Value),l= .slice (some ⟨g,0,none⟩) n cp∧i= .int .i64 k∧k≤mn∧n≤14+k∧Hid (Rx w0 w wr c a len cap p7 z g n cp vs)) (fun _ i _=>mn-(intOf i).toNat)
  case atStart=>exact⟨z,g1,n1,cp1,0,vs1,rfl,rfl,by omega,by omega,X⟩
  case round=>
   clear X
   obtain⟨z,g,n,cp,k,vs,rfl,rfl,hk,nk,X⟩:=hrel
   obtain⟨-,-,-,-,-,-,c0,c1,c2,c3,c4,c5⟩:=box_opn (zu X).o7
   by_cases t:k<mn
   case neg=>
    have tn:¬(k:Int)<mn:=by omega
    obtain⟨f0,f1,f2,f3,f4,f5,d0,d1,d2,d3,d4,d5⟩:=box_opn (zu X).o5
    have F:=zh (zu X).fin
    have SM:=zh (zu X).sm
    go_wp2_with fail
    refine wp_region_held_drew (S:=(fun w'=>w'.cell? ⟨p7,0,none⟩=some (.slice (some ⟨z.ga,0,none⟩) z.b.ac.length z.ca)∧w'.cell? ⟨p7,1,none⟩=some (.slice (some ⟨z.gi,0,none⟩) z.b.ic.length z.ci)∧w'.cell? ⟨p7,2,none⟩=some (.slice (some ⟨z.gb,0,none⟩) z.b.bs.length z.cb)∧w'.cell? ⟨p7,3,none⟩=some (.slice (some ⟨z.gl,0,none⟩) z.b.ls.length z.cl)∧w'.cell? ⟨p7,4,none⟩=some (.slice (some ⟨z.gt,0,none⟩) z.b.ts.length z.ct)∧w'.cell? ⟨p7,5,none⟩=some (.int .i64 z.b.lot))) (by kernel_rfl) (six_c (zu X).o7) (fun hHeld=>?_)
    refine tk 0 (.slice (some ⟨g,0,none⟩) n cp) rfl (by kernel_rfl) (fun _ _ _ h=>h) (by rfl) hHeld (fun w hSw=>by go_simp) ?_
    refine tk 1 (.agg #[.slice (some ⟨z.ga,0,none⟩) z.b.ac.length z.ca,.slice (some ⟨z.gi,0,none⟩) z.b.ic.length z.ci,.slice (some ⟨z.gb,0,none⟩) z.b.bs.length z.cb,.slice (some ⟨z.gl,0,none⟩) z.b.ls.length z.cl,.slice (some ⟨z.gt,0,none⟩) z.b.ts.length z.ct,.int .i64 z.b.lot]) rfl (by kernel_rfl) (fun _ _ _ h=>h) (by rfl) hHeld (fun w hSw=>by go_simp) ?_
    refine tk 2 (.slice (some ⟨g,0,none⟩) n cp) rfl (by kernel_rfl) (fun _ _ _ h=>h) (by rfl) hHeld (fun w hSw=>by go_simp) ?_
    try simp only[Act.put,zA,zB,zC]
    refine wpAnyH_ready (rs:=[3]) (by kernel_rfl) (by simp) ?_
    refine AllReadyH.cons rfl (fun K hK=>?_) AllReadyH.nil
    go_simp
    refine hK.out _ _ (six_dr (zu F).2.2.2) (fun hHeld=>?_)
    clear hK K
    try simp only[Act.put,zA,zB,zC]
    try simp only[Act.put,zA,zB,zC]
    refine wpAnyH_done (by kernel_rfl) ?_ _
    go_wp2
    obtain⟨e0,e1,e2,e3,e4,e5⟩:=six_dr (zu F).1
    refine bodyPost_ret (v:= .tuple #[.slice (some ⟨g,0,none⟩) n cp,.agg #[.slice (some ⟨z.ga,0,none⟩) z.b.ac.length z.ca,.slice (some ⟨z.gi,0,none⟩) z.b.ic.length z.ci,.slice (some ⟨z.gb,0,none⟩) z.b.bs.length z.cb,.slice (some ⟨z.gl,0,none⟩) z.b.ls.length z.cl,.slice (some ⟨z.gt,0,none⟩) z.b.ts.length z.ct,.int .i64 z.b.lot]]) (by simp[results,Tryz.results14,go_sem,e0,e1,e2,e3,e4,e5]) rfl ?_
    exact⟨z,_,rfl,(zu F).2.1.below ((Below.refl _ _).drew) (Nat.le_refl _),zu SM,⟨(zu F).2.2.1.1.drew,(zu F).2.2.1.2.drew⟩⟩
   have tn:(k:Int)<mn:=by omega
   have hc:=(zu X).l.hc
   have wzr:=(zu X).l.mv.2.1
   go_wp2_with fail
   refine(next w0 wr c a len cap z hl (zu HD) (zu X).l.mv.1 ((zu X).oz.rd (zu X).sm) (ow_off (zu X).oz hc)).mono ?_
   rintro e u6 ⟨kd,gx,nx,cx,xs,rfl,ox,x1,x7,mv1⟩
   obtain rfl:=ox.len
   replace X:=zh ((zu X).mov mv1)
   have gl6:=(zu X).l.ge
   have wz6:=mv1.2.1
   have OX:=zh ox
   have wz7:=(zu X).l.mv.2.1
   have b7:=one_more u6 (.cells #[.int .i64 kd,.slice (some ⟨gx,0,none⟩) xs.length cx] 26)
   have s7:(u6.alloc (.cells #[.int .i64 kd,.slice (some ⟨gx,0,none⟩) xs.length cx] 26)).heap.size=u6.heap.size+1:=by simp
   have gl:=ox.lt
   have CX:=zh (show Co u6 c (.int .i64 kd) (.slice (some ⟨gx,0,none⟩) xs.length cx) from⟨kd,gx,xs.length,cx,xs,rfl,rfl,x7,by omega,ox.mono (Nat.zero_le _)⟩)
   have b8:=one_more (u6.alloc (.cells #[.int .i64 kd,.slice (some ⟨gx,0,none⟩) xs.length cx] 26)) (.cells #[.int .i64 kd,.slice (some ⟨gx,0,none⟩) xs.length cx] 26)
   have X8:=zh (((zu X).bel b7).bel b8)
   have CX8:=zh (((zu CX).below b7).below b8)
   have P8:=zh (two_at (u6.alloc (.cells #[.int .i64 kd,.slice (some ⟨gx,0,none⟩) xs.length cx] 26)) (.int .i64 kd) (.slice (some ⟨gx,0,none⟩) xs.length cx) (t:=26))
   rw[s7] at P8
   have K8:=zh (show K2 26 _ w.heap.size u6.heap.size (.int .i64 kd) (.slice (some ⟨gx,0,none⟩) xs.length cx) from K2.blk (K2.made (t:=26) (w:=u6) (base:=w.heap.size) _ _ wz7 rfl) (b8.block _ (by rw[s7];omega)))
   have O8:=zh (((zu OX).below b7 gl.2).below b8 (by rw[s7];omega))
   have gn:gx≠u6.heap.size:=by omega
   clear ox mv1 X CX b7 b8 OX c0 c1 c2 c3 c4 c5
   go_wp2_with (first|(at_builtin;refine wp_app2 _ 37 26 (.agg #[.int .i64 0,.slice none 0 0]) 32 Tryz.underlying37 infoC rfl (by decide) rfl _ _ rfl w.heap.size g n cp 1 vs [.int .i64 kd,.slice (some ⟨gx,0,none⟩) xs.length cx] (u6.heap.size+1) 1 rfl rfl (zu X8).l.rr rfl (zu P8) (by simp[Value.oneCell']) (by omega) (zu X8).l.mv.2.1 ?_)|go_in)
   intro g9 c9 u9 o9 gr9 loc9
   have gg:=(zu X8).l.ge
   have X9:=zh ((zu X8).app gr9 o9 (.one (zu CX8)))
   have gne:g≠u6.heap.size:=by omega
   have K9:=zh (K2.blk (zu K8) (gr9.block _ (zu K8).lt.2 (fun e=>gne (by injection e with e;exact e.symm))))
   have O9:=zh (show Ints.Own u9 wr.heap.size gx xs.length cx xs from row_block (zu O8) (gr9.block _ (zu O8).lt.2 (fun e=>row_ne (zu O8) (zu X8).l.rr (by decide) (by injection e))))
   clear o9 gr9 loc9 X8 CX8 P8 K8 O8
   obtain⟨-,-,-,-,-,-,c0,c1,c2,c3,c4,c5⟩:=box_opn (zu X9).o7
   obtain⟨-,-,k0,k1⟩:=(zu K9).opn
   go_wp2_with fail
   refine(sApply _ z kd gx cx xs (by omega) ((zu X9).oz.rd (zu X9).sm) (zu O9).lt.2 (zu O9).at).mono ?_
   rintro e u10 AP
   obtain⟨y,cd,tt,rfl,bb,wk⟩:=AP
   have X10:=zh ((zu X9).bel bb)
   have wz9:=(zu X9).l.mv.2.1
   obtain⟨f0,f1,f2,f3,f4,f5,d0,d1,d2,d3,d4,d5⟩:=box_opn (zu X10).o7
   have pl:=(zu X10).o7.lt.2
   clear X9 K9 O9 c0 c1 c2 c3 c4 c5 k0 k1 bb
   by_cases q:cd=0
   ·subst q
    obtain⟨z2,rfl,ow,sm⟩:∃z2:Bx,y=ofB z2∧Ow u10 u9.heap.size z2∧Small z2.b:=by
     rcases wk with h|h
     ·exact absurd rfl h
     ·exact h
    clear wk
    simp only[ofB]
    have NX:=zh ((((zu X10).next (ow.rebase wz9) sm).bel (one_more _ (.cells #[.slice (some ⟨z2.ga,0,none⟩) z2.b.ac.length z2.ca,.slice (some ⟨z2.gi,0,none⟩) z2.b.ic.length z2.ci,.slice (some ⟨z2.gb,0,none⟩) z2.b.bs.length z2.cb,.slice (some ⟨z2.gl,0,none⟩) z2.b.ls.length z2.cl,.slice (some ⟨z2.gt,0,none⟩) z2.b.ts.length z2.ct,.int .i64 z2.b.lot] 44))).bel (one_more _ (.cells #[.int .i64 0,.int .i64 tt] 75)))
    clear ow X10
    go_wp2
    go_roundw
    case rel=>exact⟨z2,g9,n+1,c9,k+1,_,rfl,by go_num,by omega,by omega,NX⟩
    case measure=>simp[intOf];omega
   ·have qb:(cd==0)=false:=by simpa using q
    have bA:=one_more u10 (.cells #[.slice y.aa y.b.ac.length y.ca,.slice y.ai y.b.ic.length y.ci,.slice y.ab y.b.bs.length y.cb,.slice y.al y.b.ls.length y.cl,.slice y.ats y.b.ts.length y.ct,.int .i64 y.b.lot] 44)
    have bB:=one_more (u10.alloc (.cells #[.slice y.aa y.b.ac.length y.ca,.slice y.ai y.b.ic.length y.ci,.slice y.ab y.b.bs.length y.cb,.slice y.al y.b.ls.length y.cl,.slice y.ats y.b.ts.length y.ct,.int .i64 y.b.lot] 44)) (.cells #[.int .i64 cd,.int .i64 tt] 75)
    have NX:=zh (((zu X10).bel bA).bel bB)
    clear bA bB X10 wk q
    go_wp2
    go_roundw
    case rel=>exact⟨z,g9,n+1,c9,k+1,_,rfl,by go_num,by omega,by omega,NX⟩
    case measure=>simp[intOf];omega
end DrawW12
end Go.Proofs.YtcjgepkdpkhljaaGreat
