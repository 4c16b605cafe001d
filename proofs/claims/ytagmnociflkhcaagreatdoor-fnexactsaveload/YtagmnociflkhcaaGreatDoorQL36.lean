/- Texts of one proof, one behind the other: ICl13. -/
import Derived.Test.YtagmnociflkhcaaGreatDoorRows
import Derived.Test.YtagmnociflkhcaaGreatDoorCards
import Derived.Test.YtagmnociflkhcaaGreatDoorTie
import Derived.Test.YtagmnociflkhcaaGreatDoorQL0
import Derived.Test.YtagmnociflkhcaaGreatDoorQL17
import Derived.Test.YtagmnociflkhcaaGreatDoorQL23
import Derived.Test.YtagmnociflkhcaaGreatDoorQL35
set_option linter.unusedVariables false
set_option linter.unusedSimpArgs false
open Go.ChangeShapes Go.WideShapes Go.ChangeAt Go.RowKit
set_option maxRecDepth 100000
set_option maxHeartbeats 32000000
namespace Go.Proofs.YtagmnociflkhcaaGreatDoor
namespace ICl13
open BMem Bks BHelp SRead13 VB13
open SBytes (AtB getN AtBO)
open SPuts11 (gets)
open IRd11 (Pl cell_grown grow_below)
open IInto13
open IBalsFit (one_more)
open SRead13 (row_kept)
open Bals (T3 el3)
open Tup5 (T5 el5)
open Tup8 (T8 el8)
variable {oz:Nat}
def addRow(k:Nat)(r:List Int)(b:Bk):Bk:=
 match k with
 |0=>⟨b.ac++[r2 r],b.ic,b.bs,b.ls,b.ts,b.lot⟩
 |1=>⟨b.ac,b.ic++[r2 r],b.bs,b.ls,b.ts,b.lot⟩
 |2=>⟨b.ac,b.ic,b.bs++[r3 r],b.ls,b.ts,b.lot⟩
 |3=>⟨b.ac,b.ic,b.bs,b.ls++[r5 r],b.ts,b.lot⟩
 |_=>⟨b.ac,b.ic,b.bs,b.ls,b.ts++[r8 r],b.lot⟩
theorem add_put(k:Nat)(rs:List (List Int))(r:List Int)(b:Bk):addRow k r (putRows k rs b)=putRows k (rs++[r]) b:=by
 unfold addRow putRows
 split<;>simp
def keptT:Obj→Bool
 | .cells _ t _=>t==92||t==127||t==124
 |_=>false
def Kp(W W':World):Prop:=∀(i:Nat) (o:Obj),W.heap[i]?=some o→keptT o=true→W'.heap[i]?=some o
theorem Kp.refl(W:World):Kp W W:=fun _ _ h _=>h
theorem Kp.trans{a b c:World}(h:Kp a b)(k:Kp b c):Kp a c:=fun i o h1 h2=>k i o (h i o h1 h2) h2
theorem Kp.below{W W':World}(k:Below W.heap.size W W'):Kp W W':=fun i o h _=>(k.block i (Array.getElem?_eq_some_iff.1 h).1).trans h
theorem Kp.drew{W W':World}(k:Kp W.drew W'):Kp W W':=k
theorem Kp.grown{W W':World}{row:Option Nat}(k:W.grownBy W' row)(h:∀j,row=some j→∃o,W.heap[j]?=some o∧keptT o=false):Kp W W':=fun i o h1 h2=>by
 refine(k.block i (Array.getElem?_eq_some_iff.1 h1).1 (fun e=>?_)).trans h1
 obtain⟨o',e1,e2⟩:=h i e.symm
 rw[h1] at e1
 injection e1 with e1
 rw[e1,e2] at h2
 cases h2
theorem row_typ{W:World}{base:Nat}{e:TypeId}{m:Nat}{v:Value}{n:Nat}{vs:List Value}(h:W.ownsRow base e m v n vs):∀j,v.ownBlock=some j→∃c,W.heap[j]?=some (.cells c e (0,0)):=by
 intro j hj
 rcases h.2 with⟨h1,_⟩|⟨g,c,cur,h1,h2,h3,_⟩
 ·rw[h1] at hj;cases hj
 ·rw[h1] at hj
  have:g=j:=by simpa[Value.ownBlock] using hj
  subst this
  exact⟨cur,h3⟩
theorem row_ne{W:World}{b1 b2:Nat}{e1 e2:TypeId}{m1 m2:Nat}{v1 v2:Value}{n1 n2:Nat}{x1 x2:List Value}(h1:W.ownsRow b1 e1 m1 v1 n1 x1)(h2:W.ownsRow b2 e2 m2 v2 n2 x2)(he:e1≠e2):v1.ownBlock=none∨v1.ownBlock≠v2.ownBlock:=by
 cases h:v1.ownBlock with
 |none=>exact .inl rfl
 |some j=>
  refine .inr fun e=>?_
  obtain⟨c,hc⟩:=row_typ h1 j h
  obtain⟨c',hc'⟩:=row_typ h2 j e.symm
  rw[hc] at hc'
  injection hc' with hc'
  injection hc' with _ q _
  exact he q
theorem Gr2.grown{w w1:World}{a b:Nat}(h:Gr2 w w1 a b)(hb:w.heap.size≤b):w.grownBy w1 (some a):=
 ⟨h.os,h.tape,h.output,h.size,fun i hi hne=>h.block i hi (fun e=>hne (by rw[e])) (by omega)⟩
structure Pg(oz:Nat)(w0:World)(gl cl p D B N:Nat)(xs:List Int)(et:TypeId)(ev:Value):Prop where
 l0:xs.length≤1048576
 l1:xs.length≤cl
 g:gl<w0.heap.size
 a:AtBO w0 gl oz xs
 e:w0.cell? ⟨0,0,none⟩=some (.iface et ev)
 z:0<w0.heap.size
 p0:w0.heap.size≤p
 p1:p<N
 d0:w0.heap.size≤D
 d1:D<N
 q0:w0.heap.size≤B
 q1:B<N
 pd:p≠D
 pq:p≠B
 dq:D≠B
structure Rs(w0 W:World)(p D B N:Nat)(s:Int)(x:Ix):Prop where
 pl:Pl W w0.heap.size p s
 bx:Box W w0.heap.size D (.slice x.aa x.b.ac.length x.ca) (.slice x.ai x.b.ic.length x.ci) (.slice x.ab x.b.bs.length x.cb) (.slice x.al x.b.ls.length x.cl) (.slice x.ats x.b.ts.length x.ct) (.int .i64 x.b.lot)
 o:OwV W N x
 q:W.heap[B]?=some (.cells #[.pointer (some ⟨D,0,none⟩)] 124 (0,0))
 b:Below w0.heap.size w0 W
 n:N≤W.heap.size
theorem Rs.step{w0 W W':World}{p D B N:Nat}{s:Int}{x:Ix}(h:Rs w0 W p D B N s x)(k:Below W.heap.size W W'):Rs w0 W' p D B N s x:=
 ⟨h.pl.below k h.pl.lt.2,h.bx.below k h.bx.lt.2,⟨row_step h.o.oa k,row_step h.o.oi k,row_step h.o.ob k,row_step h.o.ol k,row_step h.o.ot k⟩,(k.block B (Array.getElem?_eq_some_iff.1 h.q).1).trans h.q,h.b.trans (k.mono h.b.size),Nat.le_trans h.n k.size⟩
theorem Rs.cellB{w0 W:World}{p D B N:Nat}{s:Int}{x:Ix}(h:Rs w0 W p D B N s x):W.cell? ⟨B,0,none⟩=some (.pointer (some ⟨D,0,none⟩)):=by
 have:=h.q
 simp[World.cell?,this]
theorem Rs.ltB{w0 W:World}{p D B N:Nat}{s:Int}{x:Ix}(h:Rs w0 W p D B N s x):B<W.heap.size:=(Array.getElem?_eq_some_iff.1 h.q).1
theorem Rs.moved{w0 W W':World}{p D B N:Nat}{s s':Int}{x:Ix}(h:Rs w0 W p D B N s x)(k:W.grownBy W' (some p))(p0:w0.heap.size≤p)(p1:p<N)(pd:p≠D)(pq:p≠B)(hp:Pl W' w0.heap.size p s'):Rs w0 W' p D B N s' x:=
 ⟨hp,h.bx.kept k (fun e=>pd (by injection e with e;exact e.symm)),⟨row_kept h.o.oa k p1,row_kept h.o.oi k p1,row_kept h.o.ob k p1,row_kept h.o.ol k p1,row_kept h.o.ot k p1⟩,(k.block B h.ltB (fun e=>pq (by injection e with e;exact e.symm))).trans h.q,h.b.grown k h.b.size (fun j hj=>by injection hj with hj;omega),Nat.le_trans h.n k.size⟩
theorem Rs.typP{w0 W:World}{p D B N:Nat}{s:Int}{x:Ix}(h:Rs w0 W p D B N s x):∃o,W.heap[p]?=some o∧keptT o=false:=by
 obtain⟨c,hc⟩:=row_typ h.pl p rfl
 exact⟨_,hc,rfl⟩
def ClS(k:Nat)(r:List Int×Int×Bool)(w0 W:World)(p D B N:Nat)(x:Ix)(e:Ending)(W':World):Prop:=
 (r.2.2=false∧Pan e∧Below w0.heap.size w0 W')∨(r.2.2=true∧e= .returned (.tuple #[])∧Kp W W'∧∃x',x'.b=addRow k r.1 x.b∧Rs w0 W' p D B N r.2.1 x')
theorem list2{l:List Int}(h:l.length=2):∃a b,l=[a,b]:=by
 match l,h with
 |[a,b],_=>exact⟨a,b,rfl⟩
theorem list3{l:List Int}(h:l.length=3):∃a b c,l=[a,b,c]:=by
 match l,h with
 |[a,b,c],_=>exact⟨a,b,c,rfl⟩
theorem list5{l:List Int}(h:l.length=5):∃a b c d e,l=[a,b,c,d,e]:=by
 match l,h with
 |[a,b,c,d,e],_=>exact⟨a,b,c,d,e,rfl⟩
theorem list8{l:List Int}(h:l.length=8):∃a b c d e f g i,l=[a,b,c,d,e,f,g,i]:=by
 match l,h with
 |[a,b,c,d,e,f,g,i],_=>exact⟨a,b,c,d,e,f,g,i,rfl⟩
theorem row_out{W:World}{base d:Nat}{e:TypeId}{m:Nat}{v:Value}{n:Nat}{vs:List Value}(h:W.ownsRow base e m v n vs)(hd:W.heap.size≤d):v.ownBlock=none∨v.ownBlock≠some d:=by
 cases q:v.ownBlock with
 |none=>exact .inl rfl
 |some j=>
  refine .inr fun e=>?_
  have:=(World.ownsRow.lt h j q).2
  injection e with e
  omega
theorem rs_drew{w0 W:World}{p D B N:Nat}{s:Int}{x:Ix}(h:Rs w0 W p D B N s x):Rs w0 W.drew p D B N s x:=⟨h.pl,h.bx,⟨h.o.oa,h.o.oi,h.o.ob,h.o.ol,h.o.ot⟩,h.q,h.b.drew,h.n⟩
abbrev oC00:Oper:={dst:=some 10,op:=Go.Op.load 124 (Go.Operand.tmp 1),type:=124,pos:= "l13_save.go:66",after:= #[],guard:=none}
abbrev oC01:Oper:={dst:=some 11,op:=Go.Op.load 124 (Go.Operand.tmp 1),type:=124,pos:= "l13_save.go:66",after:= #[],guard:=none}
abbrev oC02:Oper:={dst:=some 12,op:=Go.Op.nilCheck (Go.Operand.tmp 11),type:=0,pos:= "l13_save.go:66",after:= #[{on:=1,ground:=Go.Ground.data}],guard:=none}
abbrev oC03:Oper:={dst:=some 13,op:=Go.Op.fieldAddr 32 (Go.Operand.tmp 12) 0,type:=0,pos:= "l13_save.go:66",after:= #[{on:=2,ground:=Go.Ground.data}],guard:=none}
abbrev oC04:Oper:={dst:=some 14,op:=Go.Op.load 26 (Go.Operand.tmp 13),type:=26,pos:= "l13_save.go:66",after:= #[{on:=3,ground:=Go.Ground.data}],guard:=none}
abbrev oC05:Oper:={dst:=some 15,op:=Go.Op.load 75 (Go.Operand.tmp 3),type:=75,pos:= "l13_save.go:66",after:= #[],guard:=none}
abbrev oC06:Oper:={dst:=some 16,op:=Go.Op.buildSlice 26 1 #[(0,Go.Operand.tmp 15)],type:=26,pos:= "l13_save.go:66",after:= #[{on:=5,ground:=Go.Ground.data}],guard:=none}
abbrev oC07:Oper:={dst:=some 17,op:=Go.Op.call {callee:=Go.Callee.builtin Go.Builtin.append,args:= #[Go.Operand.tmp 14,Go.Operand.tmp 16],argTypes:= #[26,26]},type:=26,pos:= "l13_save.go:66",after:= #[{on:=4,ground:=Go.Ground.data},{on:=6,ground:=Go.Ground.data}],guard:=none}
abbrev oC08:Oper:={dst:=some 18,op:=Go.Op.nilCheck (Go.Operand.tmp 10),type:=0,pos:= "l13_save.go:66",after:= #[{on:=0,ground:=Go.Ground.data},{on:=0,ground:=Go.Ground.phase},{on:=1,ground:=Go.Ground.phase},{on:=2,ground:=Go.Ground.phase},{on:=3,ground:=Go.Ground.phase},{on:=4,ground:=Go.Ground.phase},{on:=5,ground:=Go.Ground.phase},{on:=6,ground:=Go.Ground.phase},{on:=7,ground:=Go.Ground.phase}],guard:=none}
abbrev oC09:Oper:={dst:=some 19,op:=Go.Op.fieldAddr 32 (Go.Operand.tmp 18) 0,type:=0,pos:= "l13_save.go:66",after:= #[{on:=8,ground:=Go.Ground.data},{on:=0,ground:=Go.Ground.phase},{on:=1,ground:=Go.Ground.phase},{on:=2,ground:=Go.Ground.phase},{on:=3,ground:=Go.Ground.phase},{on:=4,ground:=Go.Ground.phase},{on:=5,ground:=Go.Ground.phase},{on:=6,ground:=Go.Ground.phase},{on:=7,ground:=Go.Ground.phase}],guard:=none}
abbrev oC010:Oper:={dst:=none,op:=Go.Op.store 26 (Go.Operand.tmp 19) (Go.Operand.tmp 17),type:=0,pos:= "l13_save.go:66",after:= #[{on:=9,ground:=Go.Ground.data},{on:=7,ground:=Go.Ground.data},{on:=7,ground:=Go.Ground.chain},{on:=0,ground:=Go.Ground.phase},{on:=1,ground:=Go.Ground.phase},{on:=2,ground:=Go.Ground.phase},{on:=3,ground:=Go.Ground.phase},{on:=4,ground:=Go.Ground.phase},{on:=5,ground:=Go.Ground.phase},{on:=6,ground:=Go.Ground.phase},{on:=7,ground:=Go.Ground.phase}],guard:=none}
abbrev oC10:Oper:={dst:=some 10,op:=Go.Op.load 124 (Go.Operand.tmp 1),type:=124,pos:= "l13_save.go:71",after:= #[],guard:=none}
abbrev oC11:Oper:={dst:=some 11,op:=Go.Op.load 124 (Go.Operand.tmp 1),type:=124,pos:= "l13_save.go:71",after:= #[],guard:=none}
abbrev oC12:Oper:={dst:=some 12,op:=Go.Op.nilCheck (Go.Operand.tmp 11),type:=0,pos:= "l13_save.go:71",after:= #[{on:=1,ground:=Go.Ground.data}],guard:=none}
abbrev oC13:Oper:={dst:=some 13,op:=Go.Op.fieldAddr 32 (Go.Operand.tmp 12) 1,type:=0,pos:= "l13_save.go:71",after:= #[{on:=2,ground:=Go.Ground.data}],guard:=none}
abbrev oC14:Oper:={dst:=some 14,op:=Go.Op.load 27 (Go.Operand.tmp 13),type:=27,pos:= "l13_save.go:71",after:= #[{on:=3,ground:=Go.Ground.data}],guard:=none}
abbrev oC15:Oper:={dst:=some 15,op:=Go.Op.load 76 (Go.Operand.tmp 3),type:=76,pos:= "l13_save.go:71",after:= #[],guard:=none}
abbrev oC16:Oper:={dst:=some 16,op:=Go.Op.buildSlice 27 1 #[(0,Go.Operand.tmp 15)],type:=27,pos:= "l13_save.go:71",after:= #[{on:=5,ground:=Go.Ground.data}],guard:=none}
abbrev oC17:Oper:={dst:=some 17,op:=Go.Op.call {callee:=Go.Callee.builtin Go.Builtin.append,args:= #[Go.Operand.tmp 14,Go.Operand.tmp 16],argTypes:= #[27,27]},type:=27,pos:= "l13_save.go:71",after:= #[{on:=4,ground:=Go.Ground.data},{on:=6,ground:=Go.Ground.data}],guard:=none}
abbrev oC18:Oper:={dst:=some 18,op:=Go.Op.nilCheck (Go.Operand.tmp 10),type:=0,pos:= "l13_save.go:71",after:= #[{on:=0,ground:=Go.Ground.data},{on:=0,ground:=Go.Ground.phase},{on:=1,ground:=Go.Ground.phase},{on:=2,ground:=Go.Ground.phase},{on:=3,ground:=Go.Ground.phase},{on:=4,ground:=Go.Ground.phase},{on:=5,ground:=Go.Ground.phase},{on:=6,ground:=Go.Ground.phase},{on:=7,ground:=Go.Ground.phase}],guard:=none}
abbrev oC19:Oper:={dst:=some 19,op:=Go.Op.fieldAddr 32 (Go.Operand.tmp 18) 1,type:=0,pos:= "l13_save.go:71",after:= #[{on:=8,ground:=Go.Ground.data},{on:=0,ground:=Go.Ground.phase},{on:=1,ground:=Go.Ground.phase},{on:=2,ground:=Go.Ground.phase},{on:=3,ground:=Go.Ground.phase},{on:=4,ground:=Go.Ground.phase},{on:=5,ground:=Go.Ground.phase},{on:=6,ground:=Go.Ground.phase},{on:=7,ground:=Go.Ground.phase}],guard:=none}
abbrev oC110:Oper:={dst:=none,op:=Go.Op.store 27 (Go.Operand.tmp 19) (Go.Operand.tmp 17),type:=0,pos:= "l13_save.go:71",after:= #[{on:=9,ground:=Go.Ground.data},{on:=7,ground:=Go.Ground.data},{on:=7,ground:=Go.Ground.chain},{on:=0,ground:=Go.Ground.phase},{on:=1,ground:=Go.Ground.phase},{on:=2,ground:=Go.Ground.phase},{on:=3,ground:=Go.Ground.phase},{on:=4,ground:=Go.Ground.phase},{on:=5,ground:=Go.Ground.phase},{on:=6,ground:=Go.Ground.phase},{on:=7,ground:=Go.Ground.phase}],guard:=none}
abbrev oC20:Oper:={dst:=some 15,op:=Go.Op.load 124 (Go.Operand.tmp 1),type:=124,pos:= "l13_save.go:77",after:= #[],guard:=none}
abbrev oC21:Oper:={dst:=some 16,op:=Go.Op.load 124 (Go.Operand.tmp 1),type:=124,pos:= "l13_save.go:77",after:= #[],guard:=none}
abbrev oC22:Oper:={dst:=some 17,op:=Go.Op.nilCheck (Go.Operand.tmp 16),type:=0,pos:= "l13_save.go:77",after:= #[{on:=1,ground:=Go.Ground.data}],guard:=none}
abbrev oC23:Oper:={dst:=some 18,op:=Go.Op.fieldAddr 32 (Go.Operand.tmp 17) 2,type:=0,pos:= "l13_save.go:77",after:= #[{on:=2,ground:=Go.Ground.data}],guard:=none}
abbrev oC24:Oper:={dst:=some 19,op:=Go.Op.load 28 (Go.Operand.tmp 18),type:=28,pos:= "l13_save.go:77",after:= #[{on:=3,ground:=Go.Ground.data}],guard:=none}
abbrev oC25:Oper:={dst:=some 20,op:=Go.Op.load 78 (Go.Operand.tmp 3),type:=78,pos:= "l13_save.go:77",after:= #[],guard:=none}
abbrev oC26:Oper:={dst:=some 21,op:=Go.Op.buildSlice 28 1 #[(0,Go.Operand.tmp 20)],type:=28,pos:= "l13_save.go:77",after:= #[{on:=5,ground:=Go.Ground.data}],guard:=none}
abbrev oC27:Oper:={dst:=some 22,op:=Go.Op.call {callee:=Go.Callee.builtin Go.Builtin.append,args:= #[Go.Operand.tmp 19,Go.Operand.tmp 21],argTypes:= #[28,28]},type:=28,pos:= "l13_save.go:77",after:= #[{on:=4,ground:=Go.Ground.data},{on:=6,ground:=Go.Ground.data}],guard:=none}
abbrev oC28:Oper:={dst:=some 23,op:=Go.Op.nilCheck (Go.Operand.tmp 15),type:=0,pos:= "l13_save.go:77",after:= #[{on:=0,ground:=Go.Ground.data},{on:=0,ground:=Go.Ground.phase},{on:=1,ground:=Go.Ground.phase},{on:=2,ground:=Go.Ground.phase},{on:=3,ground:=Go.Ground.phase},{on:=4,ground:=Go.Ground.phase},{on:=5,ground:=Go.Ground.phase},{on:=6,ground:=Go.Ground.phase},{on:=7,ground:=Go.Ground.phase}],guard:=none}
abbrev oC29:Oper:={dst:=some 24,op:=Go.Op.fieldAddr 32 (Go.Operand.tmp 23) 2,type:=0,pos:= "l13_save.go:77",after:= #[{on:=8,ground:=Go.Ground.data},{on:=0,ground:=Go.Ground.phase},{on:=1,ground:=Go.Ground.phase},{on:=2,ground:=Go.Ground.phase},{on:=3,ground:=Go.Ground.phase},{on:=4,ground:=Go.Ground.phase},{on:=5,ground:=Go.Ground.phase},{on:=6,ground:=Go.Ground.phase},{on:=7,ground:=Go.Ground.phase}],guard:=none}
abbrev oC210:Oper:={dst:=none,op:=Go.Op.store 28 (Go.Operand.tmp 24) (Go.Operand.tmp 22),type:=0,pos:= "l13_save.go:77",after:= #[{on:=9,ground:=Go.Ground.data},{on:=7,ground:=Go.Ground.data},{on:=7,ground:=Go.Ground.chain},{on:=0,ground:=Go.Ground.phase},{on:=1,ground:=Go.Ground.phase},{on:=2,ground:=Go.Ground.phase},{on:=3,ground:=Go.Ground.phase},{on:=4,ground:=Go.Ground.phase},{on:=5,ground:=Go.Ground.phase},{on:=6,ground:=Go.Ground.phase},{on:=7,ground:=Go.Ground.phase}],guard:=none}
abbrev oC30:Oper:={dst:=some 13,op:=Go.Op.load 124 (Go.Operand.tmp 1),type:=124,pos:= "l13_save.go:82",after:= #[],guard:=none}
abbrev oC31:Oper:={dst:=some 14,op:=Go.Op.load 124 (Go.Operand.tmp 1),type:=124,pos:= "l13_save.go:82",after:= #[],guard:=none}
abbrev oC32:Oper:={dst:=some 15,op:=Go.Op.nilCheck (Go.Operand.tmp 14),type:=0,pos:= "l13_save.go:82",after:= #[{on:=1,ground:=Go.Ground.data}],guard:=none}
abbrev oC33:Oper:={dst:=some 16,op:=Go.Op.fieldAddr 32 (Go.Operand.tmp 15) 3,type:=0,pos:= "l13_save.go:82",after:= #[{on:=2,ground:=Go.Ground.data}],guard:=none}
abbrev oC34:Oper:={dst:=some 17,op:=Go.Op.load 29 (Go.Operand.tmp 16),type:=29,pos:= "l13_save.go:82",after:= #[{on:=3,ground:=Go.Ground.data}],guard:=none}
abbrev oC35:Oper:={dst:=some 18,op:=Go.Op.load 80 (Go.Operand.tmp 3),type:=80,pos:= "l13_save.go:82",after:= #[],guard:=none}
abbrev oC36:Oper:={dst:=some 19,op:=Go.Op.buildSlice 29 1 #[(0,Go.Operand.tmp 18)],type:=29,pos:= "l13_save.go:82",after:= #[{on:=5,ground:=Go.Ground.data}],guard:=none}
abbrev oC37:Oper:={dst:=some 20,op:=Go.Op.call {callee:=Go.Callee.builtin Go.Builtin.append,args:= #[Go.Operand.tmp 17,Go.Operand.tmp 19],argTypes:= #[29,29]},type:=29,pos:= "l13_save.go:82",after:= #[{on:=4,ground:=Go.Ground.data},{on:=6,ground:=Go.Ground.data}],guard:=none}
abbrev oC38:Oper:={dst:=some 21,op:=Go.Op.nilCheck (Go.Operand.tmp 13),type:=0,pos:= "l13_save.go:82",after:= #[{on:=0,ground:=Go.Ground.data},{on:=0,ground:=Go.Ground.phase},{on:=1,ground:=Go.Ground.phase},{on:=2,ground:=Go.Ground.phase},{on:=3,ground:=Go.Ground.phase},{on:=4,ground:=Go.Ground.phase},{on:=5,ground:=Go.Ground.phase},{on:=6,ground:=Go.Ground.phase},{on:=7,ground:=Go.Ground.phase}],guard:=none}
abbrev oC39:Oper:={dst:=some 22,op:=Go.Op.fieldAddr 32 (Go.Operand.tmp 21) 3,type:=0,pos:= "l13_save.go:82",after:= #[{on:=8,ground:=Go.Ground.data},{on:=0,ground:=Go.Ground.phase},{on:=1,ground:=Go.Ground.phase},{on:=2,ground:=Go.Ground.phase},{on:=3,ground:=Go.Ground.phase},{on:=4,ground:=Go.Ground.phase},{on:=5,ground:=Go.Ground.phase},{on:=6,ground:=Go.Ground.phase},{on:=7,ground:=Go.Ground.phase}],guard:=none}
abbrev oC310:Oper:={dst:=none,op:=Go.Op.store 29 (Go.Operand.tmp 22) (Go.Operand.tmp 20),type:=0,pos:= "l13_save.go:82",after:= #[{on:=9,ground:=Go.Ground.data},{on:=7,ground:=Go.Ground.data},{on:=7,ground:=Go.Ground.chain},{on:=0,ground:=Go.Ground.phase},{on:=1,ground:=Go.Ground.phase},{on:=2,ground:=Go.Ground.phase},{on:=3,ground:=Go.Ground.phase},{on:=4,ground:=Go.Ground.phase},{on:=5,ground:=Go.Ground.phase},{on:=6,ground:=Go.Ground.phase},{on:=7,ground:=Go.Ground.phase}],guard:=none}
abbrev oC40:Oper:={dst:=some 16,op:=Go.Op.load 124 (Go.Operand.tmp 1),type:=124,pos:= "l13_save.go:87",after:= #[],guard:=none}
abbrev oC41:Oper:={dst:=some 17,op:=Go.Op.load 124 (Go.Operand.tmp 1),type:=124,pos:= "l13_save.go:87",after:= #[],guard:=none}
abbrev oC42:Oper:={dst:=some 18,op:=Go.Op.nilCheck (Go.Operand.tmp 17),type:=0,pos:= "l13_save.go:87",after:= #[{on:=1,ground:=Go.Ground.data}],guard:=none}
abbrev oC43:Oper:={dst:=some 19,op:=Go.Op.fieldAddr 32 (Go.Operand.tmp 18) 4,type:=0,pos:= "l13_save.go:87",after:= #[{on:=2,ground:=Go.Ground.data}],guard:=none}
abbrev oC44:Oper:={dst:=some 20,op:=Go.Op.load 30 (Go.Operand.tmp 19),type:=30,pos:= "l13_save.go:87",after:= #[{on:=3,ground:=Go.Ground.data}],guard:=none}
abbrev oC45:Oper:={dst:=some 21,op:=Go.Op.load 82 (Go.Operand.tmp 3),type:=82,pos:= "l13_save.go:87",after:= #[],guard:=none}
abbrev oC46:Oper:={dst:=some 22,op:=Go.Op.buildSlice 30 1 #[(0,Go.Operand.tmp 21)],type:=30,pos:= "l13_save.go:87",after:= #[{on:=5,ground:=Go.Ground.data}],guard:=none}
abbrev oC47:Oper:={dst:=some 23,op:=Go.Op.call {callee:=Go.Callee.builtin Go.Builtin.append,args:= #[Go.Operand.tmp 20,Go.Operand.tmp 22],argTypes:= #[30,30]},type:=30,pos:= "l13_save.go:87",after:= #[{on:=4,ground:=Go.Ground.data},{on:=6,ground:=Go.Ground.data}],guard:=none}
abbrev oC48:Oper:={dst:=some 24,op:=Go.Op.nilCheck (Go.Operand.tmp 16),type:=0,pos:= "l13_save.go:87",after:= #[{on:=0,ground:=Go.Ground.data},{on:=0,ground:=Go.Ground.phase},{on:=1,ground:=Go.Ground.phase},{on:=2,ground:=Go.Ground.phase},{on:=3,ground:=Go.Ground.phase},{on:=4,ground:=Go.Ground.phase},{on:=5,ground:=Go.Ground.phase},{on:=6,ground:=Go.Ground.phase},{on:=7,ground:=Go.Ground.phase}],guard:=none}
abbrev oC49:Oper:={dst:=some 25,op:=Go.Op.fieldAddr 32 (Go.Operand.tmp 24) 4,type:=0,pos:= "l13_save.go:87",after:= #[{on:=8,ground:=Go.Ground.data},{on:=0,ground:=Go.Ground.phase},{on:=1,ground:=Go.Ground.phase},{on:=2,ground:=Go.Ground.phase},{on:=3,ground:=Go.Ground.phase},{on:=4,ground:=Go.Ground.phase},{on:=5,ground:=Go.Ground.phase},{on:=6,ground:=Go.Ground.phase},{on:=7,ground:=Go.Ground.phase}],guard:=none}
abbrev oC410:Oper:={dst:=none,op:=Go.Op.store 30 (Go.Operand.tmp 25) (Go.Operand.tmp 23),type:=0,pos:= "l13_save.go:87",after:= #[{on:=9,ground:=Go.Ground.data},{on:=7,ground:=Go.Ground.data},{on:=7,ground:=Go.Ground.chain},{on:=0,ground:=Go.Ground.phase},{on:=1,ground:=Go.Ground.phase},{on:=2,ground:=Go.Ground.phase},{on:=3,ground:=Go.Ground.phase},{on:=4,ground:=Go.Ground.phase},{on:=5,ground:=Go.Ground.phase},{on:=6,ground:=Go.Ground.phase},{on:=7,ground:=Go.Ground.phase}],guard:=none}
theorem cl0(w0 W:World)(gl cl p D B N:Nat)(xs:List Int)(et:TypeId)(ev:Value)(s:Int)(x:Ix)(G:Pg oz w0 gl cl p D B N xs et ev)(R:Rs w0 W p D B N s x)(hs:s≤9223372036854775807)(hl:x.b.ac.length≤1000):
  Calls Tryz.prog 97 #[.agg #[.slice (some ⟨gl,oz,none⟩) xs.length cl,.pointer (some ⟨p,0,none⟩)],.pointer (some ⟨B,0,none⟩)] W (ClS 0 (gets xs 2 s []) w0 W p D B N x):=by
 obtain⟨l0,l1,g,a,e,z,p0,p1,d0,d1,q0,q1,pd,pq,dq⟩:=G
 have nn:=R.n
 have BU:=zh (show Below W.heap.size W (((W.alloc (.cells #[.slice (some ⟨gl,oz,none⟩) xs.length cl,.pointer (some ⟨p,0,none⟩)] 92)).alloc (.cells #[.int .i64 0,.int .i64 0] 75)).alloc (.cells #[.pointer (some ⟨W.heap.size+1,0,none⟩),.pointer (some ⟨W.heap.size+1,1,none⟩)] 90)) from(((Below.refl _ _).alloc (Nat.le_refl _) _).alloc (by simp) _).alloc (by simp;omega) _)
 have RU:=zh (R.step (zu BU))
 have TU:=zh (show Tg (((W.alloc (.cells #[.slice (some ⟨gl,oz,none⟩) xs.length cl,.pointer (some ⟨p,0,none⟩)] 92)).alloc (.cells #[.int .i64 0,.int .i64 0] 75)).alloc (.cells #[.pointer (some ⟨W.heap.size+1,0,none⟩),.pointer (some ⟨W.heap.size+1,1,none⟩)] 90)) w0.heap.size 75 2 (W.heap.size+1) [.int .i64 0,.int .i64 0] from by
  have:=World.ownsRow.alloc (World.ownsRow_lit (base:=w0.heap.size) (size:=2) (e:=75) (W.alloc (.cells #[.slice (some ⟨gl,oz,none⟩) xs.length cl,.pointer (some ⟨p,0,none⟩)] 92)) #[.int .i64 0,.int .i64 0] 1 (by have:=R.b.size;simp;omega) (by decide) rfl) (.cells #[.pointer (some ⟨W.heap.size+1,0,none⟩),.pointer (some ⟨W.heap.size+1,1,none⟩)] 90)
  simpa[Tg] using this)
 have PU:=zh (show Ptr (((W.alloc (.cells #[.slice (some ⟨gl,oz,none⟩) xs.length cl,.pointer (some ⟨p,0,none⟩)] 92)).alloc (.cells #[.int .i64 0,.int .i64 0] 75)).alloc (.cells #[.pointer (some ⟨W.heap.size+1,0,none⟩),.pointer (some ⟨W.heap.size+1,1,none⟩)] 90)) (W.heap.size+2) (W.heap.size+1) 2 from fun i hi=>by
  have:i=0∨i=1:=by omega
  have q:=litm ((W.alloc (.cells #[.slice (some ⟨gl,oz,none⟩) xs.length cl,.pointer (some ⟨p,0,none⟩)] 92)).alloc (.cells #[.int .i64 0,.int .i64 0] 75)) [.pointer (some ⟨W.heap.size+1,0,none⟩),.pointer (some ⟨W.heap.size+1,1,none⟩)] 90 #[.pointer (some ⟨W.heap.size+1,0,none⟩),.pointer (some ⟨W.heap.size+1,1,none⟩)] rfl i
  rw[show((W.alloc (.cells #[.slice (some ⟨gl,oz,none⟩) xs.length cl,.pointer (some ⟨p,0,none⟩)] 92)).alloc (.cells #[.int .i64 0,.int .i64 0] 75)).heap.size=W.heap.size+2 by simp] at q
  rcases this with rfl|rfl<;>exact q _ rfl)
 have us:((((W.alloc (.cells #[.slice (some ⟨gl,oz,none⟩) xs.length cl,.pointer (some ⟨p,0,none⟩)] 92)).alloc (.cells #[.int .i64 0,.int .i64 0] 75)).alloc (.cells #[.pointer (some ⟨W.heap.size+1,0,none⟩),.pointer (some ⟨W.heap.size+1,1,none⟩)] 90))).heap.size=W.heap.size+3:=by simp
 have MU:=zh (iMust (((W.alloc (.cells #[.slice (some ⟨gl,oz,none⟩) xs.length cl,.pointer (some ⟨p,0,none⟩)] 92)).alloc (.cells #[.int .i64 0,.int .i64 0] 75)).alloc (.cells #[.pointer (some ⟨W.heap.size+1,0,none⟩),.pointer (some ⟨W.heap.size+1,1,none⟩)] 90)) gl cl p w0.heap.size 75 2 (W.heap.size+1) (W.heap.size+2) 2 2 xs s [.int .i64 0,.int .i64 0] ev et hs l0 l1 g (a.below (zu RU).b g) (zu RU).pl (zu TU) (fun i hi=>by
  have:i=0∨i=1:=by omega
  rcases this with rfl|rfl<;>exact⟨0,rfl⟩) (zu PU) (by omega) (by omega) (by omega) (by omega) (by omega) (((zu RU).b.cell (p:=⟨0,0,none⟩) z).trans e) z)
 have GL:=zh (gets_len xs 2 s [])
 have GA:=zh (gets_all xs 2 s [] (by simp))
 have RW:=zh R
 clear a e R TU PU us
 generalize gets xs 2 s []=r at *
 obtain⟨l,s',ok⟩:=r
 go_enter Tryz.func97,Tryz.ntmps97
 go_wp2_with fail
 refine(zu MU).mono ?_
 rintro e u (⟨h1,⟨eu,ee,rfl⟩,h3⟩|⟨h1,rfl,h3,h4,h5⟩)
 ·have b1:=(zu BU)
  have g3:=h3.to (B:=w0.heap.size) (by have:=(zu RW).b.size;have:=b1.size;omega) p0 (by have:=(zu RW).b.size;omega)
  exact⟨rfl,.inl ⟨h1,⟨eu,ee,rfl⟩,(zu RU).b.trans g3⟩⟩
 simp only at h1
 subst h1
 have ll:=(zu GL) rfl
 obtain⟨r0,r1,rfl⟩:=list2 (show l.length=2 from by simpa using ll)
 have GW:=zh (show W.grownBy u (some p) from Gr2.grown (((Gr2.refl W p (W.heap.size+1)).step (zu BU)).trans h3) (by omega))
 have RV:=zh ((zu RW).moved (zu GW) p0 p1 pd pq h4)
 have TV:=zh (show Tg u w0.heap.size 75 2 (W.heap.size+1) [.int .i64 r0,.int .i64 r1] from h5)
 have FA:=zh ((zu GA) rfl)
 have KV:=zh (Kp.grown (zu GW) (fun j hj=>by injection hj with hj;subst hj;exact(zu RW).typP))
 clear ll h3 h4 h5 GL GA MU RU BU GW
 have dl:=(zu TV).lt
 go_wp2_with fail
 have RX:=RV
 have KX:=KV
 have TX:=TV
 clear RV KV TV
 have dl:=(zu TX).lt
 have rl:=(zu RX).ltB
 have rn:=(zu RX).n
 have dD:=(zu RX).bx.lt.2
 have ro:=(zu RX).o.oa
 have e0:u.cell? ⟨W.heap.size+1,0,none⟩=some (.int .i64 r0):=(zu TX).at rfl
 have e1:u.cell? ⟨W.heap.size+1,1,none⟩=some (.int .i64 r1):=(zu TX).at rfl
 have eB:=(zu RX).cellB
 have bc:=(zu RX).bx.c0
 have NW:some (W.heap.size+1)≠(.slice x.aa x.b.ac.length x.ca:Value).ownBlock:=fun e=>by
  have:=(World.ownsRow.lt (zu RW).o.oa _ e.symm).2
  omega
 have K0:u.cell? ⟨B,0,none⟩=some (.pointer (some ⟨D,0,none⟩))∧u.cell? ⟨W.heap.size+1,0,none⟩=some (.int .i64 r0)∧u.cell? ⟨W.heap.size+1,1,none⟩=some (.int .i64 r1):=⟨eB,e0,e1⟩
 have KB:(u.drew.alloc (.cells #[.int .i64 r0,.int .i64 r1] 75)).cell? ⟨B,0,none⟩=some (.pointer (some ⟨D,0,none⟩))∧(u.drew.alloc (.cells #[.int .i64 r0,.int .i64 r1] 75)).cell? ⟨W.heap.size+1,0,none⟩=some (.int .i64 r0)∧(u.drew.alloc (.cells #[.int .i64 r0,.int .i64 r1] 75)).cell? ⟨W.heap.size+1,1,none⟩=some (.int .i64 r1):=⟨((one_more u.drew (.cells #[.int .i64 r0,.int .i64 r1] 75)).cell (p:=⟨B,0,none⟩) rl).trans eB,((one_more u.drew (.cells #[.int .i64 r0,.int .i64 r1] 75)).cell (p:=⟨W.heap.size+1,0,none⟩) dl.2).trans e0,((one_more u.drew (.cells #[.int .i64 r0,.int .i64 r1] 75)).cell (p:=⟨W.heap.size+1,1,none⟩) dl.2).trans e1⟩
 have bcD:u.drew.cell? ⟨D,0,none⟩=some (.slice x.aa x.b.ac.length x.ca):=bc
 have bcA:(u.alloc (.cells #[.int .i64 r0,.int .i64 r1] 75)).cell? ⟨D,0,none⟩=some (.slice x.aa x.b.ac.length x.ca):=((one_more u.drew (.cells #[.int .i64 r0,.int .i64 r1] 75)).cell (p:=⟨D,0,none⟩) dD).trans bc
 refine wp_region_held_drew (S:=(fun w'=>w'.cell? ⟨B,0,none⟩=some (.pointer (some ⟨D,0,none⟩))∧w'.cell? ⟨W.heap.size+1,0,none⟩=some (.int .i64 r0)∧w'.cell? ⟨W.heap.size+1,1,none⟩=some (.int .i64 r1))) (by kernel_rfl) K0 (fun hHeld=>?_)
 refine tk 0 oC00 (.pointer (some ⟨D,0,none⟩)) rfl (by kernel_rfl) (fun _ _ _ h=>h) (by rfl) (fun w hSw=>?_) hHeld ?_
 ·(try dsimp only at hSw)
  unfold oC00
  go_simp
 try simp only[oC00,Act.put,zA,zB,zC]
 refine tk 1 oC01 (.pointer (some ⟨D,0,none⟩)) rfl (by kernel_rfl) (fun _ _ _ h=>h) (by rfl) (fun w hSw=>?_) hHeld ?_
 ·(try dsimp only at hSw)
  unfold oC01
  go_simp
 try simp only[oC01,Act.put,zA,zB,zC]
 refine tk 2 oC02 (.pointer (some ⟨D,0,none⟩)) rfl (by kernel_rfl) (fun _ _ _ h=>h) (by rfl) (fun w hSw=>?_) hHeld ?_
 ·(try dsimp only at hSw)
  unfold oC02
  go_simp
 try simp only[oC02,Act.put,zA,zB,zC]
 refine tk 3 oC03 (.pointer (some ⟨D,0,none⟩)) rfl (by kernel_rfl) (fun _ _ _ h=>h) (by rfl) (fun w hSw=>?_) hHeld ?_
 ·(try dsimp only at hSw)
  unfold oC03
  go_simp
 try simp only[oC03,Act.put,zA,zB,zC]
 refine tk 5 oC05 (.agg #[.int .i64 r0,.int .i64 r1]) rfl (by kernel_rfl) (fun _ _ _ h=>h) (by rfl) (fun w hSw=>?_) hHeld ?_
 ·(try dsimp only at hSw)
  unfold oC05
  go_simp
 try simp only[oC05,Act.put,zA,zB,zC]
 refine wpAnyH_ready (rs:=[4,6]) (by kernel_rfl) (by simp) ?_
 refine AllReadyH.cons (o:=oC04) rfl (fun K hK=>?_) (AllReadyH.cons (o:=oC06) rfl (fun K hK=>?_) AllReadyH.nil)
 ·unfold oC04
  go_simp
  refine hK.out _ _ K0 (fun hHeld=>?_)
  clear hK K
  try simp only[oC04,Act.put,zA,zB,zC]
  refine wpAnyH_ready (rs:=[6]) (by kernel_rfl) (by simp) ?_
  refine AllReadyH.cons (o:=oC06) rfl (fun K hK=>?_) AllReadyH.nil
  unfold oC06
  go_simp
  refine hK.out _ _ KB (fun hHeld=>?_)
  clear hK K
  try simp only[oC06,Act.put,zA,zB,zC]
  refine wpAnyH_ready (rs:=[7]) (by kernel_rfl) (by simp) ?_
  refine AllReadyH.cons (o:=oC07) rfl (fun K hK=>?_) AllReadyH.nil
  refine step_app (u.drew.alloc (.cells #[.int .i64 r0,.int .i64 r1] 75)) (by rfl) _ _ 26 75 (by rfl) (.agg #[.int .i64 0,.int .i64 0]) 2 16 Tryz.underlying26 info_ac rfl (by decide) (by decide) N (.slice x.aa x.b.ac.length x.ca) x.b.ac.length (Pairs.flat x.b.ac) u.drew.heap.size [.int .i64 r0,.int .i64 r1] (by rfl) (by rfl) (row_step (W:=u.drew) ro (one_more u.drew (.cells #[.int .i64 r0,.int .i64 r1] 75))) rfl (litm u.drew _ _ _ (by rfl)) (by simp[Value.oneCell']) (by omega) (Nat.le_trans (show N≤u.drew.heap.size from rn) (by simp)) ?_
  intro g9 c9 u9 o9 gr9
  have BL:∀j,(.slice x.aa x.b.ac.length x.ca:Value).ownBlock=some j→N≤j:=fun j hj=>(World.ownsRow.lt ro j hj).1
  have BM:∀j,(.slice x.aa x.b.ac.length x.ca:Value).ownBlock=some j→j<u.heap.size:=fun j hj=>(World.ownsRow.lt ro j hj).2
  have NE:=NW
  have RA:=zh ((show Rs w0 u.drew p D B N s' x from rs_drew (zu RX)).step (one_more u.drew (.cells #[.int .i64 r0,.int .i64 r1] 75)))
  have R9:=zh (show Pl u9 w0.heap.size p s'∧Box u9 w0.heap.size D (.slice x.aa x.b.ac.length x.ca) (.slice x.ai x.b.ic.length x.ci) (.slice x.ab x.b.bs.length x.cb) (.slice x.al x.b.ls.length x.cl) (.slice x.ats x.b.ts.length x.ct) (.int .i64 x.b.lot) from⟨Ints.Own.kept (zu RA).pl gr9 (fun e=>by have:=BL _ e.symm;omega),(zu RA).bx.kept gr9 (fun e=>by have:=BL _ e.symm;omega)⟩)
  have O9:=zh o9
  have OO:=zh (show u9.ownsRow N 76 2 (.slice x.ai x.b.ic.length x.ci) x.b.ic.length (Pairs.flat x.b.ic)∧u9.ownsRow N 78 3 (.slice x.ab x.b.bs.length x.cb) x.b.bs.length (Triples.flat3 x.b.bs)∧u9.ownsRow N 80 5 (.slice x.al x.b.ls.length x.cl) x.b.ls.length (Tup5.flat5 x.b.ls)∧u9.ownsRow N 82 8 (.slice x.ats x.b.ts.length x.ct) x.b.ts.length (Tup8.flat8 x.b.ts) from⟨World.ownsRow.kept (zu RA).o.oi gr9 (row_ne (zu RA).o.oi (zu RA).o.oa (by decide)),World.ownsRow.kept (zu RA).o.ob gr9 (row_ne (zu RA).o.ob (zu RA).o.oa (by decide)),World.ownsRow.kept (zu RA).o.ol gr9 (row_ne (zu RA).o.ol (zu RA).o.oa (by decide)),World.ownsRow.kept (zu RA).o.ot gr9 (row_ne (zu RA).o.ot (zu RA).o.oa (by decide))⟩)
  have RR:=zh (show u9.heap[B]?=some (.cells #[.pointer (some ⟨D,0,none⟩)] 124 (0,0))∧Below w0.heap.size w0 u9∧N≤u9.heap.size from⟨(gr9.block B (by have:=(zu RA).ltB;exact this) (fun e=>by have:=BL _ e.symm;omega)).trans (zu RA).q,(zu RA).b.grown gr9 (zu RA).b.size (fun j hj=>by have:=BL _ hj;omega),Nat.le_trans (zu RA).n gr9.size⟩)
  have KA:=zh (show Kp W u9 from((zu KX).trans (Kp.drew (Kp.below (one_more u.drew (.cells #[.int .i64 r0,.int .i64 r1] 75))))).trans (Kp.grown gr9 (fun j hj=>by obtain⟨c,hc⟩:=row_typ (zu RA).o.oa j hj;exact⟨_,hc,rfl⟩)))
  have fr9:u9.frozen? ⟨D,0,none⟩=false:=(zu R9).2.free 0
  have bc9:=(zu R9).2.c0
  have SB:=zh ((zu R9).2.set0 (.slice (some ⟨g9,0,none⟩) (x.b.ac.length+1) c9))
  have KC:u9.cell? ⟨B,0,none⟩=some (.pointer (some ⟨D,0,none⟩))∧u9.cell? ⟨W.heap.size+1,0,none⟩=some (.int .i64 r0)∧u9.cell? ⟨W.heap.size+1,1,none⟩=some (.int .i64 r1):=⟨gr9.cell KB.1 (fun e=>by have:=BL _ e.symm;simp only at this;omega),gr9.cell KB.2.1 (fun e=>by exact NE e),gr9.cell KB.2.2 (fun e=>by exact NE e)⟩
  have KD:(u9.setCell ⟨D,0,none⟩ (.slice (some ⟨g9,0,none⟩) (x.b.ac.length+1) c9)).cell? ⟨B,0,none⟩=some (.pointer (some ⟨D,0,none⟩))∧(u9.setCell ⟨D,0,none⟩ (.slice (some ⟨g9,0,none⟩) (x.b.ac.length+1) c9)).cell? ⟨W.heap.size+1,0,none⟩=some (.int .i64 r0)∧(u9.setCell ⟨D,0,none⟩ (.slice (some ⟨g9,0,none⟩) (x.b.ac.length+1) c9)).cell? ⟨W.heap.size+1,1,none⟩=some (.int .i64 r1):=⟨(cell_grown (zu SB).2 0 (g:=B) (by have:=(zu RA).ltB;have:=gr9.size;omega) (fun e=>dq e.symm)).trans KC.1,(cell_grown (zu SB).2 0 (g:=W.heap.size+1) (by have:=gr9.size;simp at this;omega) (by omega)).trans KC.2.1,(cell_grown (zu SB).2 1 (g:=W.heap.size+1) (by have:=gr9.size;simp at this;omega) (by omega)).trans KC.2.2⟩
  clear o9
  refine hK.out _ _ KC (fun hHeld=>?_)
  clear hK K
  try simp only[oC07,Act.put,zA,zB,zC]
  refine tk 8 oC08 (.pointer (some ⟨D,0,none⟩)) rfl (by kernel_rfl) (fun _ _ _ h=>h) (by rfl) (fun w hSw=>?_) hHeld ?_
  ·(try dsimp only at hSw)
   unfold oC08
   go_simp
  try simp only[oC08,Act.put,zA,zB,zC]
  refine tk 9 oC09 (.pointer (some ⟨D,0,none⟩)) rfl (by kernel_rfl) (fun _ _ _ h=>h) (by rfl) (fun w hSw=>?_) hHeld ?_
  ·(try dsimp only at hSw)
   unfold oC09
   go_simp
  try simp only[oC09,Act.put,zA,zB,zC]
  refine wpAnyH_ready (rs:=[10]) (by kernel_rfl) (by simp) ?_
  refine AllReadyH.cons (o:=oC010) rfl (fun K hK=>?_) AllReadyH.nil
  unfold oC010
  go_simp
  refine hK.out _ _ KD (fun hHeld=>?_)
  clear hK K
  try simp only[oC010,Act.put,zA,zB,zC]
  refine wpAnyH_done (by kernel_rfl) ?_ _
  clear K0 KB KC KD bc bcD bcA bc9 fr9 eB e0 e1
  go_wp2
  go_end0
  obtain⟨sb,sg⟩:=zu SB
  obtain⟨h1,h2,h3,h4⟩:=zu OO
  obtain⟨q9,b9,n9⟩:=zu RR
  have ln:(x.b.ac++[r2 [r0,r1]]).length=x.b.ac.length+1:=by simp
  refine .inr ⟨rfl,rfl,(zu KA).trans (Kp.grown sg (fun j hj=>by injection hj with hj;subst hj;obtain⟨c,hc⟩:=row_typ (zu R9).2 _ rfl;exact⟨_,hc,rfl⟩)),(⟨some ⟨g9,0,none⟩,c9,x.ai,x.ci,x.ab,x.cb,x.al,x.cl,x.ats,x.ct,⟨x.b.ac++[r2 [r0,r1]],x.b.ic,x.b.bs,x.b.ls,x.b.ts,x.b.lot⟩⟩:Ix),rfl,⟨Ints.Own.kept (zu R9).1 sg (by simpa using pd),?_,⟨?_,row_kept h1 sg d1,row_kept h2 sg d1,row_kept h3 sg d1,row_kept h4 sg d1⟩,(sg.block B (by have:=Array.getElem?_eq_some_iff.1 q9;exact this.1) (fun e=>dq (by injection e with e;exact e.symm))).trans q9,b9.grown sg b9.size (fun j hj=>by injection hj with hj;omega),Nat.le_trans n9 sg.size⟩⟩
  ·show Box _ _ _ (.slice (some ⟨g9,0,none⟩) (x.b.ac++[r2 [r0,r1]]).length c9) (.slice x.ai x.b.ic.length x.ci) (.slice x.ab x.b.bs.length x.cb) (.slice x.al x.b.ls.length x.cl) (.slice x.ats x.b.ts.length x.ct) (.int .i64 x.b.lot)
   rw[ln]
   exact sb
  ·show World.ownsRow _ _ _ _ _ _ _
   have o:=row_kept (zu O9) sg d1
   simp only[ln]
   rw[show Pairs.flat (x.b.ac++[r2 [r0,r1]])=Pairs.flat x.b.ac++[.int .i64 r0,.int .i64 r1] from flat_p _ _ _]
   exact o
 ·unfold oC06
  go_simp
  refine hK.out _ _ KB (fun hHeld=>?_)
  clear hK K
  try simp only[oC06,Act.put,zA,zB,zC]
  refine wpAnyH_ready (rs:=[4]) (by kernel_rfl) (by simp) ?_
  refine AllReadyH.cons (o:=oC04) rfl (fun K hK=>?_) AllReadyH.nil
  unfold oC04
  go_simp
  refine hK.out _ _ KB (fun hHeld=>?_)
  clear hK K
  try simp only[oC04,Act.put,zA,zB,zC]
  refine wpAnyH_ready (rs:=[7]) (by kernel_rfl) (by simp) ?_
  refine AllReadyH.cons (o:=oC07) rfl (fun K hK=>?_) AllReadyH.nil
  refine step_app (u.drew.alloc (.cells #[.int .i64 r0,.int .i64 r1] 75)) (by rfl) _ _ 26 75 (by rfl) (.agg #[.int .i64 0,.int .i64 0]) 2 16 Tryz.underlying26 info_ac rfl (by decide) (by decide) N (.slice x.aa x.b.ac.length x.ca) x.b.ac.length (Pairs.flat x.b.ac) u.drew.heap.size [.int .i64 r0,.int .i64 r1] (by rfl) (by rfl) (row_step (W:=u.drew) ro (one_more u.drew (.cells #[.int .i64 r0,.int .i64 r1] 75))) rfl (litm u.drew _ _ _ (by rfl)) (by simp[Value.oneCell']) (by omega) (Nat.le_trans (show N≤u.drew.heap.size from rn) (by simp)) ?_
  intro g9 c9 u9 o9 gr9
  have BL:∀j,(.slice x.aa x.b.ac.length x.ca:Value).ownBlock=some j→N≤j:=fun j hj=>(World.ownsRow.lt ro j hj).1
  have BM:∀j,(.slice x.aa x.b.ac.length x.ca:Value).ownBlock=some j→j<u.heap.size:=fun j hj=>(World.ownsRow.lt ro j hj).2
  have NE:=NW
  have RA:=zh ((show Rs w0 u.drew p D B N s' x from rs_drew (zu RX)).step (one_more u.drew (.cells #[.int .i64 r0,.int .i64 r1] 75)))
  have R9:=zh (show Pl u9 w0.heap.size p s'∧Box u9 w0.heap.size D (.slice x.aa x.b.ac.length x.ca) (.slice x.ai x.b.ic.length x.ci) (.slice x.ab x.b.bs.length x.cb) (.slice x.al x.b.ls.length x.cl) (.slice x.ats x.b.ts.length x.ct) (.int .i64 x.b.lot) from⟨Ints.Own.kept (zu RA).pl gr9 (fun e=>by have:=BL _ e.symm;omega),(zu RA).bx.kept gr9 (fun e=>by have:=BL _ e.symm;omega)⟩)
  have O9:=zh o9
  have OO:=zh (show u9.ownsRow N 76 2 (.slice x.ai x.b.ic.length x.ci) x.b.ic.length (Pairs.flat x.b.ic)∧u9.ownsRow N 78 3 (.slice x.ab x.b.bs.length x.cb) x.b.bs.length (Triples.flat3 x.b.bs)∧u9.ownsRow N 80 5 (.slice x.al x.b.ls.length x.cl) x.b.ls.length (Tup5.flat5 x.b.ls)∧u9.ownsRow N 82 8 (.slice x.ats x.b.ts.length x.ct) x.b.ts.length (Tup8.flat8 x.b.ts) from⟨World.ownsRow.kept (zu RA).o.oi gr9 (row_ne (zu RA).o.oi (zu RA).o.oa (by decide)),World.ownsRow.kept (zu RA).o.ob gr9 (row_ne (zu RA).o.ob (zu RA).o.oa (by decide)),World.ownsRow.kept (zu RA).o.ol gr9 (row_ne (zu RA).o.ol (zu RA).o.oa (by decide)),World.ownsRow.kept (zu RA).o.ot gr9 (row_ne (zu RA).o.ot (zu RA).o.oa (by decide))⟩)
  have RR:=zh (show u9.heap[B]?=some (.cells #[.pointer (some ⟨D,0,none⟩)] 124 (0,0))∧Below w0.heap.size w0 u9∧N≤u9.heap.size from⟨(gr9.block B (by have:=(zu RA).ltB;exact this) (fun e=>by have:=BL _ e.symm;omega)).trans (zu RA).q,(zu RA).b.grown gr9 (zu RA).b.size (fun j hj=>by have:=BL _ hj;omega),Nat.le_trans (zu RA).n gr9.size⟩)
  have KA:=zh (show Kp W u9 from((zu KX).trans (Kp.drew (Kp.below (one_more u.drew (.cells #[.int .i64 r0,.int .i64 r1] 75))))).trans (Kp.grown gr9 (fun j hj=>by obtain⟨c,hc⟩:=row_typ (zu RA).o.oa j hj;exact⟨_,hc,rfl⟩)))
  have fr9:u9.frozen? ⟨D,0,none⟩=false:=(zu R9).2.free 0
  have bc9:=(zu R9).2.c0
  have SB:=zh ((zu R9).2.set0 (.slice (some ⟨g9,0,none⟩) (x.b.ac.length+1) c9))
  have KC:u9.cell? ⟨B,0,none⟩=some (.pointer (some ⟨D,0,none⟩))∧u9.cell? ⟨W.heap.size+1,0,none⟩=some (.int .i64 r0)∧u9.cell? ⟨W.heap.size+1,1,none⟩=some (.int .i64 r1):=⟨gr9.cell KB.1 (fun e=>by have:=BL _ e.symm;simp only at this;omega),gr9.cell KB.2.1 (fun e=>by exact NE e),gr9.cell KB.2.2 (fun e=>by exact NE e)⟩
  have KD:(u9.setCell ⟨D,0,none⟩ (.slice (some ⟨g9,0,none⟩) (x.b.ac.length+1) c9)).cell? ⟨B,0,none⟩=some (.pointer (some ⟨D,0,none⟩))∧(u9.setCell ⟨D,0,none⟩ (.slice (some ⟨g9,0,none⟩) (x.b.ac.length+1) c9)).cell? ⟨W.heap.size+1,0,none⟩=some (.int .i64 r0)∧(u9.setCell ⟨D,0,none⟩ (.slice (some ⟨g9,0,none⟩) (x.b.ac.length+1) c9)).cell? ⟨W.heap.size+1,1,none⟩=some (.int .i64 r1):=⟨(cell_grown (zu SB).2 0 (g:=B) (by have:=(zu RA).ltB;have:=gr9.size;omega) (fun e=>dq e.symm)).trans KC.1,(cell_grown (zu SB).2 0 (g:=W.heap.size+1) (by have:=gr9.size;simp at this;omega) (by omega)).trans KC.2.1,(cell_grown (zu SB).2 1 (g:=W.heap.size+1) (by have:=gr9.size;simp at this;omega) (by omega)).trans KC.2.2⟩
  clear o9
  refine hK.out _ _ KC (fun hHeld=>?_)
  clear hK K
  try simp only[oC07,Act.put,zA,zB,zC]
  refine tk 8 oC08 (.pointer (some ⟨D,0,none⟩)) rfl (by kernel_rfl) (fun _ _ _ h=>h) (by rfl) (fun w hSw=>?_) hHeld ?_
  ·(try dsimp only at hSw)
   unfold oC08
   go_simp
  try simp only[oC08,Act.put,zA,zB,zC]
  refine tk 9 oC09 (.pointer (some ⟨D,0,none⟩)) rfl (by kernel_rfl) (fun _ _ _ h=>h) (by rfl) (fun w hSw=>?_) hHeld ?_
  ·(try dsimp only at hSw)
   unfold oC09
   go_simp
  try simp only[oC09,Act.put,zA,zB,zC]
  refine wpAnyH_ready (rs:=[10]) (by kernel_rfl) (by simp) ?_
  refine AllReadyH.cons (o:=oC010) rfl (fun K hK=>?_) AllReadyH.nil
  unfold oC010
  go_simp
  refine hK.out _ _ KD (fun hHeld=>?_)
  clear hK K
  try simp only[oC010,Act.put,zA,zB,zC]
  refine wpAnyH_done (by kernel_rfl) ?_ _
  clear K0 KB KC KD bc bcD bcA bc9 fr9 eB e0 e1
  go_wp2
  go_end0
  obtain⟨sb,sg⟩:=zu SB
  obtain⟨h1,h2,h3,h4⟩:=zu OO
  obtain⟨q9,b9,n9⟩:=zu RR
  have ln:(x.b.ac++[r2 [r0,r1]]).length=x.b.ac.length+1:=by simp
  refine .inr ⟨rfl,rfl,(zu KA).trans (Kp.grown sg (fun j hj=>by injection hj with hj;subst hj;obtain⟨c,hc⟩:=row_typ (zu R9).2 _ rfl;exact⟨_,hc,rfl⟩)),(⟨some ⟨g9,0,none⟩,c9,x.ai,x.ci,x.ab,x.cb,x.al,x.cl,x.ats,x.ct,⟨x.b.ac++[r2 [r0,r1]],x.b.ic,x.b.bs,x.b.ls,x.b.ts,x.b.lot⟩⟩:Ix),rfl,⟨Ints.Own.kept (zu R9).1 sg (by simpa using pd),?_,⟨?_,row_kept h1 sg d1,row_kept h2 sg d1,row_kept h3 sg d1,row_kept h4 sg d1⟩,(sg.block B (by have:=Array.getElem?_eq_some_iff.1 q9;exact this.1) (fun e=>dq (by injection e with e;exact e.symm))).trans q9,b9.grown sg b9.size (fun j hj=>by injection hj with hj;omega),Nat.le_trans n9 sg.size⟩⟩
  ·show Box _ _ _ (.slice (some ⟨g9,0,none⟩) (x.b.ac++[r2 [r0,r1]]).length c9) (.slice x.ai x.b.ic.length x.ci) (.slice x.ab x.b.bs.length x.cb) (.slice x.al x.b.ls.length x.cl) (.slice x.ats x.b.ts.length x.ct) (.int .i64 x.b.lot)
   rw[ln]
   exact sb
  ·show World.ownsRow _ _ _ _ _ _ _
   have o:=row_kept (zu O9) sg d1
   simp only[ln]
   rw[show Pairs.flat (x.b.ac++[r2 [r0,r1]])=Pairs.flat x.b.ac++[.int .i64 r0,.int .i64 r1] from flat_p _ _ _]
   exact o
theorem cl1(w0 W:World)(gl cl p D B N:Nat)(xs:List Int)(et:TypeId)(ev:Value)(s:Int)(x:Ix)(G:Pg oz w0 gl cl p D B N xs et ev)(R:Rs w0 W p D B N s x)(hs:s≤9223372036854775807)(hl:x.b.ic.length≤1000):
  Calls Tryz.prog 98 #[.agg #[.slice (some ⟨gl,oz,none⟩) xs.length cl,.pointer (some ⟨p,0,none⟩)],.pointer (some ⟨B,0,none⟩)] W (ClS 1 (gets xs 2 s []) w0 W p D B N x):=by
 obtain⟨l0,l1,g,a,e,z,p0,p1,d0,d1,q0,q1,pd,pq,dq⟩:=G
 have nn:=R.n
 have BU:=zh (show Below W.heap.size W (((W.alloc (.cells #[.slice (some ⟨gl,oz,none⟩) xs.length cl,.pointer (some ⟨p,0,none⟩)] 92)).alloc (.cells #[.int .i64 0,.int .i64 0] 76)).alloc (.cells #[.pointer (some ⟨W.heap.size+1,0,none⟩),.pointer (some ⟨W.heap.size+1,1,none⟩)] 90)) from(((Below.refl _ _).alloc (Nat.le_refl _) _).alloc (by simp) _).alloc (by simp;omega) _)
 have RU:=zh (R.step (zu BU))
 have TU:=zh (show Tg (((W.alloc (.cells #[.slice (some ⟨gl,oz,none⟩) xs.length cl,.pointer (some ⟨p,0,none⟩)] 92)).alloc (.cells #[.int .i64 0,.int .i64 0] 76)).alloc (.cells #[.pointer (some ⟨W.heap.size+1,0,none⟩),.pointer (some ⟨W.heap.size+1,1,none⟩)] 90)) w0.heap.size 76 2 (W.heap.size+1) [.int .i64 0,.int .i64 0] from by
  have:=World.ownsRow.alloc (World.ownsRow_lit (base:=w0.heap.size) (size:=2) (e:=76) (W.alloc (.cells #[.slice (some ⟨gl,oz,none⟩) xs.length cl,.pointer (some ⟨p,0,none⟩)] 92)) #[.int .i64 0,.int .i64 0] 1 (by have:=R.b.size;simp;omega) (by decide) rfl) (.cells #[.pointer (some ⟨W.heap.size+1,0,none⟩),.pointer (some ⟨W.heap.size+1,1,none⟩)] 90)
  simpa[Tg] using this)
 have PU:=zh (show Ptr (((W.alloc (.cells #[.slice (some ⟨gl,oz,none⟩) xs.length cl,.pointer (some ⟨p,0,none⟩)] 92)).alloc (.cells #[.int .i64 0,.int .i64 0] 76)).alloc (.cells #[.pointer (some ⟨W.heap.size+1,0,none⟩),.pointer (some ⟨W.heap.size+1,1,none⟩)] 90)) (W.heap.size+2) (W.heap.size+1) 2 from fun i hi=>by
  have:i=0∨i=1:=by omega
  have q:=litm ((W.alloc (.cells #[.slice (some ⟨gl,oz,none⟩) xs.length cl,.pointer (some ⟨p,0,none⟩)] 92)).alloc (.cells #[.int .i64 0,.int .i64 0] 76)) [.pointer (some ⟨W.heap.size+1,0,none⟩),.pointer (some ⟨W.heap.size+1,1,none⟩)] 90 #[.pointer (some ⟨W.heap.size+1,0,none⟩),.pointer (some ⟨W.heap.size+1,1,none⟩)] rfl i
  rw[show((W.alloc (.cells #[.slice (some ⟨gl,oz,none⟩) xs.length cl,.pointer (some ⟨p,0,none⟩)] 92)).alloc (.cells #[.int .i64 0,.int .i64 0] 76)).heap.size=W.heap.size+2 by simp] at q
  rcases this with rfl|rfl<;>exact q _ rfl)
 have us:((((W.alloc (.cells #[.slice (some ⟨gl,oz,none⟩) xs.length cl,.pointer (some ⟨p,0,none⟩)] 92)).alloc (.cells #[.int .i64 0,.int .i64 0] 76)).alloc (.cells #[.pointer (some ⟨W.heap.size+1,0,none⟩),.pointer (some ⟨W.heap.size+1,1,none⟩)] 90))).heap.size=W.heap.size+3:=by simp
 have MU:=zh (iMust (((W.alloc (.cells #[.slice (some ⟨gl,oz,none⟩) xs.length cl,.pointer (some ⟨p,0,none⟩)] 92)).alloc (.cells #[.int .i64 0,.int .i64 0] 76)).alloc (.cells #[.pointer (some ⟨W.heap.size+1,0,none⟩),.pointer (some ⟨W.heap.size+1,1,none⟩)] 90)) gl cl p w0.heap.size 76 2 (W.heap.size+1) (W.heap.size+2) 2 2 xs s [.int .i64 0,.int .i64 0] ev et hs l0 l1 g (a.below (zu RU).b g) (zu RU).pl (zu TU) (fun i hi=>by
  have:i=0∨i=1:=by omega
  rcases this with rfl|rfl<;>exact⟨0,rfl⟩) (zu PU) (by omega) (by omega) (by omega) (by omega) (by omega) (((zu RU).b.cell (p:=⟨0,0,none⟩) z).trans e) z)
 have GL:=zh (gets_len xs 2 s [])
 have GA:=zh (gets_all xs 2 s [] (by simp))
 have RW:=zh R
 clear a e R TU PU us
 generalize gets xs 2 s []=r at *
 obtain⟨l,s',ok⟩:=r
 go_enter Tryz.func98,Tryz.ntmps98
 go_wp2_with fail
 refine(zu MU).mono ?_
 rintro e u (⟨h1,⟨eu,ee,rfl⟩,h3⟩|⟨h1,rfl,h3,h4,h5⟩)
 ·have b1:=(zu BU)
  have g3:=h3.to (B:=w0.heap.size) (by have:=(zu RW).b.size;have:=b1.size;omega) p0 (by have:=(zu RW).b.size;omega)
  exact⟨rfl,.inl ⟨h1,⟨eu,ee,rfl⟩,(zu RU).b.trans g3⟩⟩
 simp only at h1
 subst h1
 have ll:=(zu GL) rfl
 obtain⟨r0,r1,rfl⟩:=list2 (show l.length=2 from by simpa using ll)
 have GW:=zh (show W.grownBy u (some p) from Gr2.grown (((Gr2.refl W p (W.heap.size+1)).step (zu BU)).trans h3) (by omega))
 have RV:=zh ((zu RW).moved (zu GW) p0 p1 pd pq h4)
 have TV:=zh (show Tg u w0.heap.size 76 2 (W.heap.size+1) [.int .i64 r0,.int .i64 r1] from h5)
 have FA:=zh ((zu GA) rfl)
 have KV:=zh (Kp.grown (zu GW) (fun j hj=>by injection hj with hj;subst hj;exact(zu RW).typP))
 clear ll h3 h4 h5 GL GA MU RU BU GW
 have dl:=(zu TV).lt
 go_wp2_with fail
 have RX:=RV
 have KX:=KV
 have TX:=TV
 clear RV KV TV
 have dl:=(zu TX).lt
 have rl:=(zu RX).ltB
 have rn:=(zu RX).n
 have dD:=(zu RX).bx.lt.2
 have ro:=(zu RX).o.oi
 have e0:u.cell? ⟨W.heap.size+1,0,none⟩=some (.int .i64 r0):=(zu TX).at rfl
 have e1:u.cell? ⟨W.heap.size+1,1,none⟩=some (.int .i64 r1):=(zu TX).at rfl
 have eB:=(zu RX).cellB
 have bc:=(zu RX).bx.c1
 have NW:some (W.heap.size+1)≠(.slice x.ai x.b.ic.length x.ci:Value).ownBlock:=fun e=>by
  have:=(World.ownsRow.lt (zu RW).o.oi _ e.symm).2
  omega
 have K0:u.cell? ⟨B,0,none⟩=some (.pointer (some ⟨D,0,none⟩))∧u.cell? ⟨W.heap.size+1,0,none⟩=some (.int .i64 r0)∧u.cell? ⟨W.heap.size+1,1,none⟩=some (.int .i64 r1):=⟨eB,e0,e1⟩
 have KB:(u.drew.alloc (.cells #[.int .i64 r0,.int .i64 r1] 76)).cell? ⟨B,0,none⟩=some (.pointer (some ⟨D,0,none⟩))∧(u.drew.alloc (.cells #[.int .i64 r0,.int .i64 r1] 76)).cell? ⟨W.heap.size+1,0,none⟩=some (.int .i64 r0)∧(u.drew.alloc (.cells #[.int .i64 r0,.int .i64 r1] 76)).cell? ⟨W.heap.size+1,1,none⟩=some (.int .i64 r1):=⟨((one_more u.drew (.cells #[.int .i64 r0,.int .i64 r1] 76)).cell (p:=⟨B,0,none⟩) rl).trans eB,((one_more u.drew (.cells #[.int .i64 r0,.int .i64 r1] 76)).cell (p:=⟨W.heap.size+1,0,none⟩) dl.2).trans e0,((one_more u.drew (.cells #[.int .i64 r0,.int .i64 r1] 76)).cell (p:=⟨W.heap.size+1,1,none⟩) dl.2).trans e1⟩
 have bcD:u.drew.cell? ⟨D,1,none⟩=some (.slice x.ai x.b.ic.length x.ci):=bc
 have bcA:(u.alloc (.cells #[.int .i64 r0,.int .i64 r1] 76)).cell? ⟨D,1,none⟩=some (.slice x.ai x.b.ic.length x.ci):=((one_more u.drew (.cells #[.int .i64 r0,.int .i64 r1] 76)).cell (p:=⟨D,1,none⟩) dD).trans bc
 refine wp_region_held_drew (S:=(fun w'=>w'.cell? ⟨B,0,none⟩=some (.pointer (some ⟨D,0,none⟩))∧w'.cell? ⟨W.heap.size+1,0,none⟩=some (.int .i64 r0)∧w'.cell? ⟨W.heap.size+1,1,none⟩=some (.int .i64 r1))) (by kernel_rfl) K0 (fun hHeld=>?_)
 refine tk 0 oC10 (.pointer (some ⟨D,0,none⟩)) rfl (by kernel_rfl) (fun _ _ _ h=>h) (by rfl) (fun w hSw=>?_) hHeld ?_
 ·(try dsimp only at hSw)
  unfold oC10
  go_simp
 try simp only[oC10,Act.put,zA,zB,zC]
 refine tk 1 oC11 (.pointer (some ⟨D,0,none⟩)) rfl (by kernel_rfl) (fun _ _ _ h=>h) (by rfl) (fun w hSw=>?_) hHeld ?_
 ·(try dsimp only at hSw)
  unfold oC11
  go_simp
 try simp only[oC11,Act.put,zA,zB,zC]
 refine tk 2 oC12 (.pointer (some ⟨D,0,none⟩)) rfl (by kernel_rfl) (fun _ _ _ h=>h) (by rfl) (fun w hSw=>?_) hHeld ?_
 ·(try dsimp only at hSw)
  unfold oC12
  go_simp
 try simp only[oC12,Act.put,zA,zB,zC]
 refine tk 3 oC13 (.pointer (some ⟨D,1,none⟩)) rfl (by kernel_rfl) (fun _ _ _ h=>h) (by rfl) (fun w hSw=>?_) hHeld ?_
 ·(try dsimp only at hSw)
  unfold oC13
  go_simp
 try simp only[oC13,Act.put,zA,zB,zC]
 refine tk 5 oC15 (.agg #[.int .i64 r0,.int .i64 r1]) rfl (by kernel_rfl) (fun _ _ _ h=>h) (by rfl) (fun w hSw=>?_) hHeld ?_
 ·(try dsimp only at hSw)
  unfold oC15
  go_simp
 try simp only[oC15,Act.put,zA,zB,zC]
 refine wpAnyH_ready (rs:=[4,6]) (by kernel_rfl) (by simp) ?_
 refine AllReadyH.cons (o:=oC14) rfl (fun K hK=>?_) (AllReadyH.cons (o:=oC16) rfl (fun K hK=>?_) AllReadyH.nil)
 ·unfold oC14
  go_simp
  refine hK.out _ _ K0 (fun hHeld=>?_)
  clear hK K
  try simp only[oC14,Act.put,zA,zB,zC]
  refine wpAnyH_ready (rs:=[6]) (by kernel_rfl) (by simp) ?_
  refine AllReadyH.cons (o:=oC16) rfl (fun K hK=>?_) AllReadyH.nil
  unfold oC16
  go_simp
  refine hK.out _ _ KB (fun hHeld=>?_)
  clear hK K
  try simp only[oC16,Act.put,zA,zB,zC]
  refine wpAnyH_ready (rs:=[7]) (by kernel_rfl) (by simp) ?_
  refine AllReadyH.cons (o:=oC17) rfl (fun K hK=>?_) AllReadyH.nil
  refine step_app (u.drew.alloc (.cells #[.int .i64 r0,.int .i64 r1] 76)) (by rfl) _ _ 27 76 (by rfl) (.agg #[.int .i64 0,.int .i64 0]) 2 16 Tryz.underlying27 info_ic rfl (by decide) (by decide) N (.slice x.ai x.b.ic.length x.ci) x.b.ic.length (Pairs.flat x.b.ic) u.drew.heap.size [.int .i64 r0,.int .i64 r1] (by rfl) (by rfl) (row_step (W:=u.drew) ro (one_more u.drew (.cells #[.int .i64 r0,.int .i64 r1] 76))) rfl (litm u.drew _ _ _ (by rfl)) (by simp[Value.oneCell']) (by omega) (Nat.le_trans (show N≤u.drew.heap.size from rn) (by simp)) ?_
  intro g9 c9 u9 o9 gr9
  have BL:∀j,(.slice x.ai x.b.ic.length x.ci:Value).ownBlock=some j→N≤j:=fun j hj=>(World.ownsRow.lt ro j hj).1
  have BM:∀j,(.slice x.ai x.b.ic.length x.ci:Value).ownBlock=some j→j<u.heap.size:=fun j hj=>(World.ownsRow.lt ro j hj).2
  have NE:=NW
  have RA:=zh ((show Rs w0 u.drew p D B N s' x from rs_drew (zu RX)).step (one_more u.drew (.cells #[.int .i64 r0,.int .i64 r1] 76)))
  have R9:=zh (show Pl u9 w0.heap.size p s'∧Box u9 w0.heap.size D (.slice x.aa x.b.ac.length x.ca) (.slice x.ai x.b.ic.length x.ci) (.slice x.ab x.b.bs.length x.cb) (.slice x.al x.b.ls.length x.cl) (.slice x.ats x.b.ts.length x.ct) (.int .i64 x.b.lot) from⟨Ints.Own.kept (zu RA).pl gr9 (fun e=>by have:=BL _ e.symm;omega),(zu RA).bx.kept gr9 (fun e=>by have:=BL _ e.symm;omega)⟩)
  have O9:=zh o9
  have OO:=zh (show u9.ownsRow N 75 2 (.slice x.aa x.b.ac.length x.ca) x.b.ac.length (Pairs.flat x.b.ac)∧u9.ownsRow N 78 3 (.slice x.ab x.b.bs.length x.cb) x.b.bs.length (Triples.flat3 x.b.bs)∧u9.ownsRow N 80 5 (.slice x.al x.b.ls.length x.cl) x.b.ls.length (Tup5.flat5 x.b.ls)∧u9.ownsRow N 82 8 (.slice x.ats x.b.ts.length x.ct) x.b.ts.length (Tup8.flat8 x.b.ts) from⟨World.ownsRow.kept (zu RA).o.oa gr9 (row_ne (zu RA).o.oa (zu RA).o.oi (by decide)),World.ownsRow.kept (zu RA).o.ob gr9 (row_ne (zu RA).o.ob (zu RA).o.oi (by decide)),World.ownsRow.kept (zu RA).o.ol gr9 (row_ne (zu RA).o.ol (zu RA).o.oi (by decide)),World.ownsRow.kept (zu RA).o.ot gr9 (row_ne (zu RA).o.ot (zu RA).o.oi (by decide))⟩)
  have RR:=zh (show u9.heap[B]?=some (.cells #[.pointer (some ⟨D,0,none⟩)] 124 (0,0))∧Below w0.heap.size w0 u9∧N≤u9.heap.size from⟨(gr9.block B (by have:=(zu RA).ltB;exact this) (fun e=>by have:=BL _ e.symm;omega)).trans (zu RA).q,(zu RA).b.grown gr9 (zu RA).b.size (fun j hj=>by have:=BL _ hj;omega),Nat.le_trans (zu RA).n gr9.size⟩)
  have KA:=zh (show Kp W u9 from((zu KX).trans (Kp.drew (Kp.below (one_more u.drew (.cells #[.int .i64 r0,.int .i64 r1] 76))))).trans (Kp.grown gr9 (fun j hj=>by obtain⟨c,hc⟩:=row_typ (zu RA).o.oi j hj;exact⟨_,hc,rfl⟩)))
  have fr9:u9.frozen? ⟨D,1,none⟩=false:=(zu R9).2.free 1
  have bc9:=(zu R9).2.c1
  have SB:=zh ((zu R9).2.set1 (.slice (some ⟨g9,0,none⟩) (x.b.ic.length+1) c9))
  have KC:u9.cell? ⟨B,0,none⟩=some (.pointer (some ⟨D,0,none⟩))∧u9.cell? ⟨W.heap.size+1,0,none⟩=some (.int .i64 r0)∧u9.cell? ⟨W.heap.size+1,1,none⟩=some (.int .i64 r1):=⟨gr9.cell KB.1 (fun e=>by have:=BL _ e.symm;simp only at this;omega),gr9.cell KB.2.1 (fun e=>by exact NE e),gr9.cell KB.2.2 (fun e=>by exact NE e)⟩
  have KD:(u9.setCell ⟨D,1,none⟩ (.slice (some ⟨g9,0,none⟩) (x.b.ic.length+1) c9)).cell? ⟨B,0,none⟩=some (.pointer (some ⟨D,0,none⟩))∧(u9.setCell ⟨D,1,none⟩ (.slice (some ⟨g9,0,none⟩) (x.b.ic.length+1) c9)).cell? ⟨W.heap.size+1,0,none⟩=some (.int .i64 r0)∧(u9.setCell ⟨D,1,none⟩ (.slice (some ⟨g9,0,none⟩) (x.b.ic.length+1) c9)).cell? ⟨W.heap.size+1,1,none⟩=some (.int .i64 r1):=⟨(cell_grown (zu SB).2 0 (g:=B) (by have:=(zu RA).ltB;have:=gr9.size;omega) (fun e=>dq e.symm)).trans KC.1,(cell_grown (zu SB).2 0 (g:=W.heap.size+1) (by have:=gr9.size;simp at this;omega) (by omega)).trans KC.2.1,(cell_grown (zu SB).2 1 (g:=W.heap.size+1) (by have:=gr9.size;simp at this;omega) (by omega)).trans KC.2.2⟩
  clear o9
  refine hK.out _ _ KC (fun hHeld=>?_)
  clear hK K
  try simp only[oC17,Act.put,zA,zB,zC]
  refine tk 8 oC18 (.pointer (some ⟨D,0,none⟩)) rfl (by kernel_rfl) (fun _ _ _ h=>h) (by rfl) (fun w hSw=>?_) hHeld ?_
  ·(try dsimp only at hSw)
   unfold oC18
   go_simp
  try simp only[oC18,Act.put,zA,zB,zC]
  refine tk 9 oC19 (.pointer (some ⟨D,1,none⟩)) rfl (by kernel_rfl) (fun _ _ _ h=>h) (by rfl) (fun w hSw=>?_) hHeld ?_
  ·(try dsimp only at hSw)
   unfold oC19
   go_simp
  try simp only[oC19,Act.put,zA,zB,zC]
  refine wpAnyH_ready (rs:=[10]) (by kernel_rfl) (by simp) ?_
  refine AllReadyH.cons (o:=oC110) rfl (fun K hK=>?_) AllReadyH.nil
  unfold oC110
  go_simp
  refine hK.out _ _ KD (fun hHeld=>?_)
  clear hK K
  try simp only[oC110,Act.put,zA,zB,zC]
  refine wpAnyH_done (by kernel_rfl) ?_ _
  clear K0 KB KC KD bc bcD bcA bc9 fr9 eB e0 e1
  go_wp2
  go_end0
  obtain⟨sb,sg⟩:=zu SB
  obtain⟨h0,h2,h3,h4⟩:=zu OO
  obtain⟨q9,b9,n9⟩:=zu RR
  have ln:(x.b.ic++[r2 [r0,r1]]).length=x.b.ic.length+1:=by simp
  refine .inr ⟨rfl,rfl,(zu KA).trans (Kp.grown sg (fun j hj=>by injection hj with hj;subst hj;obtain⟨c,hc⟩:=row_typ (zu R9).2 _ rfl;exact⟨_,hc,rfl⟩)),(⟨x.aa,x.ca,some ⟨g9,0,none⟩,c9,x.ab,x.cb,x.al,x.cl,x.ats,x.ct,⟨x.b.ac,x.b.ic++[r2 [r0,r1]],x.b.bs,x.b.ls,x.b.ts,x.b.lot⟩⟩:Ix),rfl,⟨Ints.Own.kept (zu R9).1 sg (by simpa using pd),?_,⟨row_kept h0 sg d1,?_,row_kept h2 sg d1,row_kept h3 sg d1,row_kept h4 sg d1⟩,(sg.block B (by have:=Array.getElem?_eq_some_iff.1 q9;exact this.1) (fun e=>dq (by injection e with e;exact e.symm))).trans q9,b9.grown sg b9.size (fun j hj=>by injection hj with hj;omega),Nat.le_trans n9 sg.size⟩⟩
  ·show Box _ _ _ (.slice x.aa x.b.ac.length x.ca) (.slice (some ⟨g9,0,none⟩) (x.b.ic++[r2 [r0,r1]]).length c9) (.slice x.ab x.b.bs.length x.cb) (.slice x.al x.b.ls.length x.cl) (.slice x.ats x.b.ts.length x.ct) (.int .i64 x.b.lot)
   rw[ln]
   exact sb
  ·show World.ownsRow _ _ _ _ _ _ _
   have o:=row_kept (zu O9) sg d1
   simp only[ln]
   rw[show Pairs.flat (x.b.ic++[r2 [r0,r1]])=Pairs.flat x.b.ic++[.int .i64 r0,.int .i64 r1] from flat_p _ _ _]
   exact o
 ·unfold oC16
  go_simp
  refine hK.out _ _ KB (fun hHeld=>?_)
  clear hK K
  try simp only[oC16,Act.put,zA,zB,zC]
  refine wpAnyH_ready (rs:=[4]) (by kernel_rfl) (by simp) ?_
  refine AllReadyH.cons (o:=oC14) rfl (fun K hK=>?_) AllReadyH.nil
  unfold oC14
  go_simp
  refine hK.out _ _ KB (fun hHeld=>?_)
  clear hK K
  try simp only[oC14,Act.put,zA,zB,zC]
  refine wpAnyH_ready (rs:=[7]) (by kernel_rfl) (by simp) ?_
  refine AllReadyH.cons (o:=oC17) rfl (fun K hK=>?_) AllReadyH.nil
  refine step_app (u.drew.alloc (.cells #[.int .i64 r0,.int .i64 r1] 76)) (by rfl) _ _ 27 76 (by rfl) (.agg #[.int .i64 0,.int .i64 0]) 2 16 Tryz.underlying27 info_ic rfl (by decide) (by decide) N (.slice x.ai x.b.ic.length x.ci) x.b.ic.length (Pairs.flat x.b.ic) u.drew.heap.size [.int .i64 r0,.int .i64 r1] (by rfl) (by rfl) (row_step (W:=u.drew) ro (one_more u.drew (.cells #[.int .i64 r0,.int .i64 r1] 76))) rfl (litm u.drew _ _ _ (by rfl)) (by simp[Value.oneCell']) (by omega) (Nat.le_trans (show N≤u.drew.heap.size from rn) (by simp)) ?_
  intro g9 c9 u9 o9 gr9
  have BL:∀j,(.slice x.ai x.b.ic.length x.ci:Value).ownBlock=some j→N≤j:=fun j hj=>(World.ownsRow.lt ro j hj).1
  have BM:∀j,(.slice x.ai x.b.ic.length x.ci:Value).ownBlock=some j→j<u.heap.size:=fun j hj=>(World.ownsRow.lt ro j hj).2
  have NE:=NW
  have RA:=zh ((show Rs w0 u.drew p D B N s' x from rs_drew (zu RX)).step (one_more u.drew (.cells #[.int .i64 r0,.int .i64 r1] 76)))
  have R9:=zh (show Pl u9 w0.heap.size p s'∧Box u9 w0.heap.size D (.slice x.aa x.b.ac.length x.ca) (.slice x.ai x.b.ic.length x.ci) (.slice x.ab x.b.bs.length x.cb) (.slice x.al x.b.ls.length x.cl) (.slice x.ats x.b.ts.length x.ct) (.int .i64 x.b.lot) from⟨Ints.Own.kept (zu RA).pl gr9 (fun e=>by have:=BL _ e.symm;omega),(zu RA).bx.kept gr9 (fun e=>by have:=BL _ e.symm;omega)⟩)
  have O9:=zh o9
  have OO:=zh (show u9.ownsRow N 75 2 (.slice x.aa x.b.ac.length x.ca) x.b.ac.length (Pairs.flat x.b.ac)∧u9.ownsRow N 78 3 (.slice x.ab x.b.bs.length x.cb) x.b.bs.length (Triples.flat3 x.b.bs)∧u9.ownsRow N 80 5 (.slice x.al x.b.ls.length x.cl) x.b.ls.length (Tup5.flat5 x.b.ls)∧u9.ownsRow N 82 8 (.slice x.ats x.b.ts.length x.ct) x.b.ts.length (Tup8.flat8 x.b.ts) from⟨World.ownsRow.kept (zu RA).o.oa gr9 (row_ne (zu RA).o.oa (zu RA).o.oi (by decide)),World.ownsRow.kept (zu RA).o.ob gr9 (row_ne (zu RA).o.ob (zu RA).o.oi (by decide)),World.ownsRow.kept (zu RA).o.ol gr9 (row_ne (zu RA).o.ol (zu RA).o.oi (by decide)),World.ownsRow.kept (zu RA).o.ot gr9 (row_ne (zu RA).o.ot (zu RA).o.oi (by decide))⟩)
  have RR:=zh (show u9.heap[B]?=some (.cells #[.pointer (some ⟨D,0,none⟩)] 124 (0,0))∧Below w0.heap.size w0 u9∧N≤u9.heap.size from⟨(gr9.block B (by have:=(zu RA).ltB;exact this) (fun e=>by have:=BL _ e.symm;omega)).trans (zu RA).q,(zu RA).b.grown gr9 (zu RA).b.size (fun j hj=>by have:=BL _ hj;omega),Nat.le_trans (zu RA).n gr9.size⟩)
  have KA:=zh (show Kp W u9 from((zu KX).trans (Kp.drew (Kp.below (one_more u.drew (.cells #[.int .i64 r0,.int .i64 r1] 76))))).trans (Kp.grown gr9 (fun j hj=>by obtain⟨c,hc⟩:=row_typ (zu RA).o.oi j hj;exact⟨_,hc,rfl⟩)))
  have fr9:u9.frozen? ⟨D,1,none⟩=false:=(zu R9).2.free 1
  have bc9:=(zu R9).2.c1
  have SB:=zh ((zu R9).2.set1 (.slice (some ⟨g9,0,none⟩) (x.b.ic.length+1) c9))
  have KC:u9.cell? ⟨B,0,none⟩=some (.pointer (some ⟨D,0,none⟩))∧u9.cell? ⟨W.heap.size+1,0,none⟩=some (.int .i64 r0)∧u9.cell? ⟨W.heap.size+1,1,none⟩=some (.int .i64 r1):=⟨gr9.cell KB.1 (fun e=>by have:=BL _ e.symm;simp only at this;omega),gr9.cell KB.2.1 (fun e=>by exact NE e),gr9.cell KB.2.2 (fun e=>by exact NE e)⟩
  have KD:(u9.setCell ⟨D,1,none⟩ (.slice (some ⟨g9,0,none⟩) (x.b.ic.length+1) c9)).cell? ⟨B,0,none⟩=some (.pointer (some ⟨D,0,none⟩))∧(u9.setCell ⟨D,1,none⟩ (.slice (some ⟨g9,0,none⟩) (x.b.ic.length+1) c9)).cell? ⟨W.heap.size+1,0,none⟩=some (.int .i64 r0)∧(u9.setCell ⟨D,1,none⟩ (.slice (some ⟨g9,0,none⟩) (x.b.ic.length+1) c9)).cell? ⟨W.heap.size+1,1,none⟩=some (.int .i64 r1):=⟨(cell_grown (zu SB).2 0 (g:=B) (by have:=(zu RA).ltB;have:=gr9.size;omega) (fun e=>dq e.symm)).trans KC.1,(cell_grown (zu SB).2 0 (g:=W.heap.size+1) (by have:=gr9.size;simp at this;omega) (by omega)).trans KC.2.1,(cell_grown (zu SB).2 1 (g:=W.heap.size+1) (by have:=gr9.size;simp at this;omega) (by omega)).trans KC.2.2⟩
  clear o9
  refine hK.out _ _ KC (fun hHeld=>?_)
  clear hK K
  try simp only[oC17,Act.put,zA,zB,zC]
  refine tk 8 oC18 (.pointer (some ⟨D,0,none⟩)) rfl (by kernel_rfl) (fun _ _ _ h=>h) (by rfl) (fun w hSw=>?_) hHeld ?_
  ·(try dsimp only at hSw)
   unfold oC18
   go_simp
  try simp only[oC18,Act.put,zA,zB,zC]
  refine tk 9 oC19 (.pointer (some ⟨D,1,none⟩)) rfl (by kernel_rfl) (fun _ _ _ h=>h) (by rfl) (fun w hSw=>?_) hHeld ?_
  ·(try dsimp only at hSw)
   unfold oC19
   go_simp
  try simp only[oC19,Act.put,zA,zB,zC]
  refine wpAnyH_ready (rs:=[10]) (by kernel_rfl) (by simp) ?_
  refine AllReadyH.cons (o:=oC110) rfl (fun K hK=>?_) AllReadyH.nil
  unfold oC110
  go_simp
  refine hK.out _ _ KD (fun hHeld=>?_)
  clear hK K
  try simp only[oC110,Act.put,zA,zB,zC]
  refine wpAnyH_done (by kernel_rfl) ?_ _
  clear K0 KB KC KD bc bcD bcA bc9 fr9 eB e0 e1
  go_wp2
  go_end0
  obtain⟨sb,sg⟩:=zu SB
  obtain⟨h0,h2,h3,h4⟩:=zu OO
  obtain⟨q9,b9,n9⟩:=zu RR
  have ln:(x.b.ic++[r2 [r0,r1]]).length=x.b.ic.length+1:=by simp
  refine .inr ⟨rfl,rfl,(zu KA).trans (Kp.grown sg (fun j hj=>by injection hj with hj;subst hj;obtain⟨c,hc⟩:=row_typ (zu R9).2 _ rfl;exact⟨_,hc,rfl⟩)),(⟨x.aa,x.ca,some ⟨g9,0,none⟩,c9,x.ab,x.cb,x.al,x.cl,x.ats,x.ct,⟨x.b.ac,x.b.ic++[r2 [r0,r1]],x.b.bs,x.b.ls,x.b.ts,x.b.lot⟩⟩:Ix),rfl,⟨Ints.Own.kept (zu R9).1 sg (by simpa using pd),?_,⟨row_kept h0 sg d1,?_,row_kept h2 sg d1,row_kept h3 sg d1,row_kept h4 sg d1⟩,(sg.block B (by have:=Array.getElem?_eq_some_iff.1 q9;exact this.1) (fun e=>dq (by injection e with e;exact e.symm))).trans q9,b9.grown sg b9.size (fun j hj=>by injection hj with hj;omega),Nat.le_trans n9 sg.size⟩⟩
  ·show Box _ _ _ (.slice x.aa x.b.ac.length x.ca) (.slice (some ⟨g9,0,none⟩) (x.b.ic++[r2 [r0,r1]]).length c9) (.slice x.ab x.b.bs.length x.cb) (.slice x.al x.b.ls.length x.cl) (.slice x.ats x.b.ts.length x.ct) (.int .i64 x.b.lot)
   rw[ln]
   exact sb
  ·show World.ownsRow _ _ _ _ _ _ _
   have o:=row_kept (zu O9) sg d1
   simp only[ln]
   rw[show Pairs.flat (x.b.ic++[r2 [r0,r1]])=Pairs.flat x.b.ic++[.int .i64 r0,.int .i64 r1] from flat_p _ _ _]
   exact o
theorem cl2(w0 W:World)(gl cl p D B N:Nat)(xs:List Int)(et:TypeId)(ev:Value)(s:Int)(x:Ix)(G:Pg oz w0 gl cl p D B N xs et ev)(R:Rs w0 W p D B N s x)(hs:s≤9223372036854775807)(hl:x.b.bs.length≤1000):
  Calls Tryz.prog 99 #[.agg #[.slice (some ⟨gl,oz,none⟩) xs.length cl,.pointer (some ⟨p,0,none⟩)],.pointer (some ⟨B,0,none⟩)] W (ClS 2 (gets xs 3 s []) w0 W p D B N x):=by
 obtain⟨l0,l1,g,a,e,z,p0,p1,d0,d1,q0,q1,pd,pq,dq⟩:=G
 have nn:=R.n
 have BU:=zh (show Below W.heap.size W (((W.alloc (.cells #[.slice (some ⟨gl,oz,none⟩) xs.length cl,.pointer (some ⟨p,0,none⟩)] 92)).alloc (.cells #[.int .i64 0,.int .i64 0,.int .i64 0] 78)).alloc (.cells #[.pointer (some ⟨W.heap.size+1,0,none⟩),.pointer (some ⟨W.heap.size+1,1,none⟩),.pointer (some ⟨W.heap.size+1,2,none⟩)] 90)) from(((Below.refl _ _).alloc (Nat.le_refl _) _).alloc (by simp) _).alloc (by simp;omega) _)
 have RU:=zh (R.step (zu BU))
 have TU:=zh (show Tg (((W.alloc (.cells #[.slice (some ⟨gl,oz,none⟩) xs.length cl,.pointer (some ⟨p,0,none⟩)] 92)).alloc (.cells #[.int .i64 0,.int .i64 0,.int .i64 0] 78)).alloc (.cells #[.pointer (some ⟨W.heap.size+1,0,none⟩),.pointer (some ⟨W.heap.size+1,1,none⟩),.pointer (some ⟨W.heap.size+1,2,none⟩)] 90)) w0.heap.size 78 3 (W.heap.size+1) [.int .i64 0,.int .i64 0,.int .i64 0] from by
  have:=World.ownsRow.alloc (World.ownsRow_lit (base:=w0.heap.size) (size:=3) (e:=78) (W.alloc (.cells #[.slice (some ⟨gl,oz,none⟩) xs.length cl,.pointer (some ⟨p,0,none⟩)] 92)) #[.int .i64 0,.int .i64 0,.int .i64 0] 1 (by have:=R.b.size;simp;omega) (by decide) rfl) (.cells #[.pointer (some ⟨W.heap.size+1,0,none⟩),.pointer (some ⟨W.heap.size+1,1,none⟩),.pointer (some ⟨W.heap.size+1,2,none⟩)] 90)
  simpa[Tg] using this)
 have PU:=zh (show Ptr (((W.alloc (.cells #[.slice (some ⟨gl,oz,none⟩) xs.length cl,.pointer (some ⟨p,0,none⟩)] 92)).alloc (.cells #[.int .i64 0,.int .i64 0,.int .i64 0] 78)).alloc (.cells #[.pointer (some ⟨W.heap.size+1,0,none⟩),.pointer (some ⟨W.heap.size+1,1,none⟩),.pointer (some ⟨W.heap.size+1,2,none⟩)] 90)) (W.heap.size+2) (W.heap.size+1) 3 from fun i hi=>by
  have:i=0∨i=1∨i=2:=by omega
  have q:=litm ((W.alloc (.cells #[.slice (some ⟨gl,oz,none⟩) xs.length cl,.pointer (some ⟨p,0,none⟩)] 92)).alloc (.cells #[.int .i64 0,.int .i64 0,.int .i64 0] 78)) [.pointer (some ⟨W.heap.size+1,0,none⟩),.pointer (some ⟨W.heap.size+1,1,none⟩),.pointer (some ⟨W.heap.size+1,2,none⟩)] 90 #[.pointer (some ⟨W.heap.size+1,0,none⟩),.pointer (some ⟨W.heap.size+1,1,none⟩),.pointer (some ⟨W.heap.size+1,2,none⟩)] rfl i
  rw[show((W.alloc (.cells #[.slice (some ⟨gl,oz,none⟩) xs.length cl,.pointer (some ⟨p,0,none⟩)] 92)).alloc (.cells #[.int .i64 0,.int .i64 0,.int .i64 0] 78)).heap.size=W.heap.size+2 by simp] at q
  rcases this with rfl|rfl|rfl<;>exact q _ rfl)
 have us:((((W.alloc (.cells #[.slice (some ⟨gl,oz,none⟩) xs.length cl,.pointer (some ⟨p,0,none⟩)] 92)).alloc (.cells #[.int .i64 0,.int .i64 0,.int .i64 0] 78)).alloc (.cells #[.pointer (some ⟨W.heap.size+1,0,none⟩),.pointer (some ⟨W.heap.size+1,1,none⟩),.pointer (some ⟨W.heap.size+1,2,none⟩)] 90))).heap.size=W.heap.size+3:=by simp
 have MU:=zh (iMust (((W.alloc (.cells #[.slice (some ⟨gl,oz,none⟩) xs.length cl,.pointer (some ⟨p,0,none⟩)] 92)).alloc (.cells #[.int .i64 0,.int .i64 0,.int .i64 0] 78)).alloc (.cells #[.pointer (some ⟨W.heap.size+1,0,none⟩),.pointer (some ⟨W.heap.size+1,1,none⟩),.pointer (some ⟨W.heap.size+1,2,none⟩)] 90)) gl cl p w0.heap.size 78 3 (W.heap.size+1) (W.heap.size+2) 3 3 xs s [.int .i64 0,.int .i64 0,.int .i64 0] ev et hs l0 l1 g (a.below (zu RU).b g) (zu RU).pl (zu TU) (fun i hi=>by
  have:i=0∨i=1∨i=2:=by omega
  rcases this with rfl|rfl|rfl<;>exact⟨0,rfl⟩) (zu PU) (by omega) (by omega) (by omega) (by omega) (by omega) (((zu RU).b.cell (p:=⟨0,0,none⟩) z).trans e) z)
 have GL:=zh (gets_len xs 3 s [])
 have GA:=zh (gets_all xs 3 s [] (by simp))
 have RW:=zh R
 clear a e R TU PU us
 generalize gets xs 3 s []=r at *
 obtain⟨l,s',ok⟩:=r
 go_enter Tryz.func99,Tryz.ntmps99
 go_wp2_with fail
 refine(zu MU).mono ?_
 rintro e u (⟨h1,⟨eu,ee,rfl⟩,h3⟩|⟨h1,rfl,h3,h4,h5⟩)
 ·have b1:=(zu BU)
  have g3:=h3.to (B:=w0.heap.size) (by have:=(zu RW).b.size;have:=b1.size;omega) p0 (by have:=(zu RW).b.size;omega)
  exact⟨rfl,.inl ⟨h1,⟨eu,ee,rfl⟩,(zu RU).b.trans g3⟩⟩
 simp only at h1
 subst h1
 have ll:=(zu GL) rfl
 obtain⟨r0,r1,r2,rfl⟩:=list3 (show l.length=3 from by simpa using ll)
 have GW:=zh (show W.grownBy u (some p) from Gr2.grown (((Gr2.refl W p (W.heap.size+1)).step (zu BU)).trans h3) (by omega))
 have RV:=zh ((zu RW).moved (zu GW) p0 p1 pd pq h4)
 have TV:=zh (show Tg u w0.heap.size 78 3 (W.heap.size+1) [.int .i64 r0,.int .i64 r1,.int .i64 r2] from h5)
 have FA:=zh ((zu GA) rfl)
 have KV:=zh (Kp.grown (zu GW) (fun j hj=>by injection hj with hj;subst hj;exact(zu RW).typP))
 clear ll h3 h4 h5 GL GA MU RU BU GW
 have dl:=(zu TV).lt
 have fm:=(zu FA) r2 (by simp)
 have am1:wrap64 (r2-1000000000000000)=r2-1000000000000000:=by rw[wrap64];unfold Fm at fm;omega
 have am2:IntKind.i64.wrap (r2-1000000000000000)=r2-1000000000000000:=by rw[IntKind.wrap_i64];unfold Fm at fm;omega
 clear fm
 have y2:u.cell? ⟨W.heap.size+1,2,none⟩=some (.int .i64 r2):=(zu TV).at rfl
 have yf:u.frozen? ⟨W.heap.size+1,2,none⟩=false:=(zu TV).free 2
 obtain⟨tv,gv⟩:=(zu TV).set 2 (.int .i64 (r2-1000000000000000))
 have TV2:=zh (show Tg (u.setCell ⟨W.heap.size+1,2,none⟩ (.int .i64 (r2-1000000000000000))) w0.heap.size 78 3 (W.heap.size+1) [.int .i64 r0,.int .i64 r1,.int .i64 (r2-1000000000000000)] from tv)
 have BV:=zh (show Rs w0 (u.setCell ⟨W.heap.size+1,2,none⟩ (.int .i64 (r2-1000000000000000))) p D B N s' x∧Kp W (u.setCell ⟨W.heap.size+1,2,none⟩ (.int .i64 (r2-1000000000000000))) from by
  have R:=zu RV
  have hw:W.heap.size≤W.heap.size+1:=by omega
  have ro:=(zu RW).o
  refine⟨⟨Ints.Own.kept R.pl gv (by simp;omega),R.bx.kept gv (fun e=>by injection e with e;omega),⟨?_,?_,?_,?_,?_⟩,(gv.block B R.ltB (fun e=>by injection e with e;omega)).trans R.q,R.b.grown gv R.b.size (fun j hj=>by injection hj with hj;omega),Nat.le_trans R.n gv.size⟩,(zu KV).trans (Kp.grown gv (fun j hj=>by injection hj with hj;subst hj;obtain⟨c,hc⟩:=row_typ (zu TV) _ rfl;exact⟨_,hc,rfl⟩))⟩
  all_goals first
   |exact World.ownsRow.kept R.o.oa gv (row_out ro.oa hw)
   |exact World.ownsRow.kept R.o.oi gv (row_out ro.oi hw)
   |exact World.ownsRow.kept R.o.ob gv (row_out ro.ob hw)
   |exact World.ownsRow.kept R.o.ol gv (row_out ro.ol hw)
   |exact World.ownsRow.kept R.o.ot gv (row_out ro.ot hw))
 clear tv
 have gvs:=gv.size
 clear gv
 go_wp2_with fail
 clear y2 yf
 generalize u.setCell ⟨W.heap.size+1,2,none⟩ (.int .i64 (r2-1000000000000000))=v at *
 have RX:=zh (zu BV).1
 have KX:=zh (zu BV).2
 have TX:=TV2
 clear BV TV2 TV RV KV gvs
 have dl:=(zu TX).lt
 have rl:=(zu RX).ltB
 have rn:=(zu RX).n
 have dD:=(zu RX).bx.lt.2
 have ro:=(zu RX).o.ob
 have e0:v.cell? ⟨W.heap.size+1,0,none⟩=some (.int .i64 r0):=(zu TX).at rfl
 have e1:v.cell? ⟨W.heap.size+1,1,none⟩=some (.int .i64 r1):=(zu TX).at rfl
 have e2:v.cell? ⟨W.heap.size+1,2,none⟩=some (.int .i64 (r2-1000000000000000)):=(zu TX).at rfl
 have eB:=(zu RX).cellB
 have bc:=(zu RX).bx.c2
 have NW:some (W.heap.size+1)≠(.slice x.ab x.b.bs.length x.cb:Value).ownBlock:=fun e=>by
  have:=(World.ownsRow.lt (zu RW).o.ob _ e.symm).2
  omega
 have K0:v.cell? ⟨B,0,none⟩=some (.pointer (some ⟨D,0,none⟩))∧v.cell? ⟨W.heap.size+1,0,none⟩=some (.int .i64 r0)∧v.cell? ⟨W.heap.size+1,1,none⟩=some (.int .i64 r1)∧v.cell? ⟨W.heap.size+1,2,none⟩=some (.int .i64 (r2-1000000000000000)):=⟨eB,e0,e1,e2⟩
 have KB:(v.drew.alloc (.cells #[.int .i64 r0,.int .i64 r1,.int .i64 (r2-1000000000000000)] 78)).cell? ⟨B,0,none⟩=some (.pointer (some ⟨D,0,none⟩))∧(v.drew.alloc (.cells #[.int .i64 r0,.int .i64 r1,.int .i64 (r2-1000000000000000)] 78)).cell? ⟨W.heap.size+1,0,none⟩=some (.int .i64 r0)∧(v.drew.alloc (.cells #[.int .i64 r0,.int .i64 r1,.int .i64 (r2-1000000000000000)] 78)).cell? ⟨W.heap.size+1,1,none⟩=some (.int .i64 r1)∧(v.drew.alloc (.cells #[.int .i64 r0,.int .i64 r1,.int .i64 (r2-1000000000000000)] 78)).cell? ⟨W.heap.size+1,2,none⟩=some (.int .i64 (r2-1000000000000000)):=⟨((one_more v.drew (.cells #[.int .i64 r0,.int .i64 r1,.int .i64 (r2-1000000000000000)] 78)).cell (p:=⟨B,0,none⟩) rl).trans eB,((one_more v.drew (.cells #[.int .i64 r0,.int .i64 r1,.int .i64 (r2-1000000000000000)] 78)).cell (p:=⟨W.heap.size+1,0,none⟩) dl.2).trans e0,((one_more v.drew (.cells #[.int .i64 r0,.int .i64 r1,.int .i64 (r2-1000000000000000)] 78)).cell (p:=⟨W.heap.size+1,1,none⟩) dl.2).trans e1,((one_more v.drew (.cells #[.int .i64 r0,.int .i64 r1,.int .i64 (r2-1000000000000000)] 78)).cell (p:=⟨W.heap.size+1,2,none⟩) dl.2).trans e2⟩
 have bcD:v.drew.cell? ⟨D,2,none⟩=some (.slice x.ab x.b.bs.length x.cb):=bc
 have bcA:(v.alloc (.cells #[.int .i64 r0,.int .i64 r1,.int .i64 (r2-1000000000000000)] 78)).cell? ⟨D,2,none⟩=some (.slice x.ab x.b.bs.length x.cb):=((one_more v.drew (.cells #[.int .i64 r0,.int .i64 r1,.int .i64 (r2-1000000000000000)] 78)).cell (p:=⟨D,2,none⟩) dD).trans bc
 refine wp_region_held_drew (S:=(fun w'=>w'.cell? ⟨B,0,none⟩=some (.pointer (some ⟨D,0,none⟩))∧w'.cell? ⟨W.heap.size+1,0,none⟩=some (.int .i64 r0)∧w'.cell? ⟨W.heap.size+1,1,none⟩=some (.int .i64 r1)∧w'.cell? ⟨W.heap.size+1,2,none⟩=some (.int .i64 (r2-1000000000000000)))) (by kernel_rfl) K0 (fun hHeld=>?_)
 refine tk 0 oC20 (.pointer (some ⟨D,0,none⟩)) rfl (by kernel_rfl) (fun _ _ _ h=>h) (by rfl) (fun w hSw=>?_) hHeld ?_
 ·(try dsimp only at hSw)
  unfold oC20
  go_simp
 try simp only[oC20,Act.put,zA,zB,zC]
 refine tk 1 oC21 (.pointer (some ⟨D,0,none⟩)) rfl (by kernel_rfl) (fun _ _ _ h=>h) (by rfl) (fun w hSw=>?_) hHeld ?_
 ·(try dsimp only at hSw)
  unfold oC21
  go_simp
 try simp only[oC21,Act.put,zA,zB,zC]
 refine tk 2 oC22 (.pointer (some ⟨D,0,none⟩)) rfl (by kernel_rfl) (fun _ _ _ h=>h) (by rfl) (fun w hSw=>?_) hHeld ?_
 ·(try dsimp only at hSw)
  unfold oC22
  go_simp
 try simp only[oC22,Act.put,zA,zB,zC]
 refine tk 3 oC23 (.pointer (some ⟨D,2,none⟩)) rfl (by kernel_rfl) (fun _ _ _ h=>h) (by rfl) (fun w hSw=>?_) hHeld ?_
 ·(try dsimp only at hSw)
  unfold oC23
  go_simp
 try simp only[oC23,Act.put,zA,zB,zC]
 refine tk 5 oC25 (.agg #[.int .i64 r0,.int .i64 r1,.int .i64 (r2-1000000000000000)]) rfl (by kernel_rfl) (fun _ _ _ h=>h) (by rfl) (fun w hSw=>?_) hHeld ?_
 ·(try dsimp only at hSw)
  unfold oC25
  go_simp
 try simp only[oC25,Act.put,zA,zB,zC]
 refine wpAnyH_ready (rs:=[4,6]) (by kernel_rfl) (by simp) ?_
 refine AllReadyH.cons (o:=oC24) rfl (fun K hK=>?_) (AllReadyH.cons (o:=oC26) rfl (fun K hK=>?_) AllReadyH.nil)
 ·unfold oC24
  go_simp
  refine hK.out _ _ K0 (fun hHeld=>?_)
  clear hK K
  try simp only[oC24,Act.put,zA,zB,zC]
  refine wpAnyH_ready (rs:=[6]) (by kernel_rfl) (by simp) ?_
  refine AllReadyH.cons (o:=oC26) rfl (fun K hK=>?_) AllReadyH.nil
  unfold oC26
  go_simp
  refine hK.out _ _ KB (fun hHeld=>?_)
  clear hK K
  try simp only[oC26,Act.put,zA,zB,zC]
  refine wpAnyH_ready (rs:=[7]) (by kernel_rfl) (by simp) ?_
  refine AllReadyH.cons (o:=oC27) rfl (fun K hK=>?_) AllReadyH.nil
  refine step_app (v.drew.alloc (.cells #[.int .i64 r0,.int .i64 r1,.int .i64 (r2-1000000000000000)] 78)) (by rfl) _ _ 28 78 (by rfl) (.agg #[.int .i64 0,.int .i64 0,.int .i64 0]) 3 24 Tryz.underlying28 info_bs rfl (by decide) (by decide) N (.slice x.ab x.b.bs.length x.cb) x.b.bs.length (Triples.flat3 x.b.bs) v.drew.heap.size [.int .i64 r0,.int .i64 r1,.int .i64 (r2-1000000000000000)] (by rfl) (by rfl) (row_step (W:=v.drew) ro (one_more v.drew (.cells #[.int .i64 r0,.int .i64 r1,.int .i64 (r2-1000000000000000)] 78))) rfl (litm v.drew _ _ _ (by rfl)) (by simp[Value.oneCell']) (by omega) (Nat.le_trans (show N≤v.drew.heap.size from rn) (by simp)) ?_
  intro g9 c9 u9 o9 gr9
  have BL:∀j,(.slice x.ab x.b.bs.length x.cb:Value).ownBlock=some j→N≤j:=fun j hj=>(World.ownsRow.lt ro j hj).1
  have BM:∀j,(.slice x.ab x.b.bs.length x.cb:Value).ownBlock=some j→j<v.heap.size:=fun j hj=>(World.ownsRow.lt ro j hj).2
  have NE:=NW
  have RA:=zh ((show Rs w0 v.drew p D B N s' x from rs_drew (zu RX)).step (one_more v.drew (.cells #[.int .i64 r0,.int .i64 r1,.int .i64 (r2-1000000000000000)] 78)))
  have R9:=zh (show Pl u9 w0.heap.size p s'∧Box u9 w0.heap.size D (.slice x.aa x.b.ac.length x.ca) (.slice x.ai x.b.ic.length x.ci) (.slice x.ab x.b.bs.length x.cb) (.slice x.al x.b.ls.length x.cl) (.slice x.ats x.b.ts.length x.ct) (.int .i64 x.b.lot) from⟨Ints.Own.kept (zu RA).pl gr9 (fun e=>by have:=BL _ e.symm;omega),(zu RA).bx.kept gr9 (fun e=>by have:=BL _ e.symm;omega)⟩)
  have O9:=zh o9
  have OO:=zh (show u9.ownsRow N 75 2 (.slice x.aa x.b.ac.length x.ca) x.b.ac.length (Pairs.flat x.b.ac)∧u9.ownsRow N 76 2 (.slice x.ai x.b.ic.length x.ci) x.b.ic.length (Pairs.flat x.b.ic)∧u9.ownsRow N 80 5 (.slice x.al x.b.ls.length x.cl) x.b.ls.length (Tup5.flat5 x.b.ls)∧u9.ownsRow N 82 8 (.slice x.ats x.b.ts.length x.ct) x.b.ts.length (Tup8.flat8 x.b.ts) from⟨World.ownsRow.kept (zu RA).o.oa gr9 (row_ne (zu RA).o.oa (zu RA).o.ob (by decide)),World.ownsRow.kept (zu RA).o.oi gr9 (row_ne (zu RA).o.oi (zu RA).o.ob (by decide)),World.ownsRow.kept (zu RA).o.ol gr9 (row_ne (zu RA).o.ol (zu RA).o.ob (by decide)),World.ownsRow.kept (zu RA).o.ot gr9 (row_ne (zu RA).o.ot (zu RA).o.ob (by decide))⟩)
  have RR:=zh (show u9.heap[B]?=some (.cells #[.pointer (some ⟨D,0,none⟩)] 124 (0,0))∧Below w0.heap.size w0 u9∧N≤u9.heap.size from⟨(gr9.block B (by have:=(zu RA).ltB;exact this) (fun e=>by have:=BL _ e.symm;omega)).trans (zu RA).q,(zu RA).b.grown gr9 (zu RA).b.size (fun j hj=>by have:=BL _ hj;omega),Nat.le_trans (zu RA).n gr9.size⟩)
  have KA:=zh (show Kp W u9 from((zu KX).trans (Kp.drew (Kp.below (one_more v.drew (.cells #[.int .i64 r0,.int .i64 r1,.int .i64 (r2-1000000000000000)] 78))))).trans (Kp.grown gr9 (fun j hj=>by obtain⟨c,hc⟩:=row_typ (zu RA).o.ob j hj;exact⟨_,hc,rfl⟩)))
  have fr9:u9.frozen? ⟨D,2,none⟩=false:=(zu R9).2.free 2
  have bc9:=(zu R9).2.c2
  have SB:=zh ((zu R9).2.set2 (.slice (some ⟨g9,0,none⟩) (x.b.bs.length+1) c9))
  have KC:u9.cell? ⟨B,0,none⟩=some (.pointer (some ⟨D,0,none⟩))∧u9.cell? ⟨W.heap.size+1,0,none⟩=some (.int .i64 r0)∧u9.cell? ⟨W.heap.size+1,1,none⟩=some (.int .i64 r1)∧u9.cell? ⟨W.heap.size+1,2,none⟩=some (.int .i64 (r2-1000000000000000)):=⟨gr9.cell KB.1 (fun e=>by have:=BL _ e.symm;simp only at this;omega),gr9.cell KB.2.1 (fun e=>by exact NE e),gr9.cell KB.2.2.1 (fun e=>by exact NE e),gr9.cell KB.2.2.2 (fun e=>by exact NE e)⟩
  have KD:(u9.setCell ⟨D,2,none⟩ (.slice (some ⟨g9,0,none⟩) (x.b.bs.length+1) c9)).cell? ⟨B,0,none⟩=some (.pointer (some ⟨D,0,none⟩))∧(u9.setCell ⟨D,2,none⟩ (.slice (some ⟨g9,0,none⟩) (x.b.bs.length+1) c9)).cell? ⟨W.heap.size+1,0,none⟩=some (.int .i64 r0)∧(u9.setCell ⟨D,2,none⟩ (.slice (some ⟨g9,0,none⟩) (x.b.bs.length+1) c9)).cell? ⟨W.heap.size+1,1,none⟩=some (.int .i64 r1)∧(u9.setCell ⟨D,2,none⟩ (.slice (some ⟨g9,0,none⟩) (x.b.bs.length+1) c9)).cell? ⟨W.heap.size+1,2,none⟩=some (.int .i64 (r2-1000000000000000)):=⟨(cell_grown (zu SB).2 0 (g:=B) (by have:=(zu RA).ltB;have:=gr9.size;omega) (fun e=>dq e.symm)).trans KC.1,(cell_grown (zu SB).2 0 (g:=W.heap.size+1) (by have:=gr9.size;simp at this;omega) (by omega)).trans KC.2.1,(cell_grown (zu SB).2 1 (g:=W.heap.size+1) (by have:=gr9.size;simp at this;omega) (by omega)).trans KC.2.2.1,(cell_grown (zu SB).2 2 (g:=W.heap.size+1) (by have:=gr9.size;simp at this;omega) (by omega)).trans KC.2.2.2⟩
  clear o9
  refine hK.out _ _ KC (fun hHeld=>?_)
  clear hK K
  try simp only[oC27,Act.put,zA,zB,zC]
  refine tk 8 oC28 (.pointer (some ⟨D,0,none⟩)) rfl (by kernel_rfl) (fun _ _ _ h=>h) (by rfl) (fun w hSw=>?_) hHeld ?_
  ·(try dsimp only at hSw)
   unfold oC28
   go_simp
  try simp only[oC28,Act.put,zA,zB,zC]
  refine tk 9 oC29 (.pointer (some ⟨D,2,none⟩)) rfl (by kernel_rfl) (fun _ _ _ h=>h) (by rfl) (fun w hSw=>?_) hHeld ?_
  ·(try dsimp only at hSw)
   unfold oC29
   go_simp
  try simp only[oC29,Act.put,zA,zB,zC]
  refine wpAnyH_ready (rs:=[10]) (by kernel_rfl) (by simp) ?_
  refine AllReadyH.cons (o:=oC210) rfl (fun K hK=>?_) AllReadyH.nil
  unfold oC210
  go_simp
  refine hK.out _ _ KD (fun hHeld=>?_)
  clear hK K
  try simp only[oC210,Act.put,zA,zB,zC]
  refine wpAnyH_done (by kernel_rfl) ?_ _
  clear K0 KB KC KD bc bcD bcA bc9 fr9 eB e0 e1 e2
  go_wp2
  go_end0
  obtain⟨sb,sg⟩:=zu SB
  obtain⟨h0,h1,h3,h4⟩:=zu OO
  obtain⟨q9,b9,n9⟩:=zu RR
  have ln:(x.b.bs++[r3 [r0,r1,r2]]).length=x.b.bs.length+1:=by simp
  refine .inr ⟨rfl,rfl,(zu KA).trans (Kp.grown sg (fun j hj=>by injection hj with hj;subst hj;obtain⟨c,hc⟩:=row_typ (zu R9).2 _ rfl;exact⟨_,hc,rfl⟩)),(⟨x.aa,x.ca,x.ai,x.ci,some ⟨g9,0,none⟩,c9,x.al,x.cl,x.ats,x.ct,⟨x.b.ac,x.b.ic,x.b.bs++[r3 [r0,r1,r2]],x.b.ls,x.b.ts,x.b.lot⟩⟩:Ix),rfl,⟨Ints.Own.kept (zu R9).1 sg (by simpa using pd),?_,⟨row_kept h0 sg d1,row_kept h1 sg d1,?_,row_kept h3 sg d1,row_kept h4 sg d1⟩,(sg.block B (by have:=Array.getElem?_eq_some_iff.1 q9;exact this.1) (fun e=>dq (by injection e with e;exact e.symm))).trans q9,b9.grown sg b9.size (fun j hj=>by injection hj with hj;omega),Nat.le_trans n9 sg.size⟩⟩
  ·show Box _ _ _ (.slice x.aa x.b.ac.length x.ca) (.slice x.ai x.b.ic.length x.ci) (.slice (some ⟨g9,0,none⟩) (x.b.bs++[r3 [r0,r1,r2]]).length c9) (.slice x.al x.b.ls.length x.cl) (.slice x.ats x.b.ts.length x.ct) (.int .i64 x.b.lot)
   rw[ln]
   exact sb
  ·show World.ownsRow _ _ _ _ _ _ _
   have o:=row_kept (zu O9) sg d1
   simp only[ln]
   rw[show Triples.flat3 (x.b.bs++[r3 [r0,r1,r2]])=Triples.flat3 x.b.bs++[.int .i64 r0,.int .i64 r1,.int .i64 (r2-1000000000000000)] from flat_t _ _ _ _]
   exact o
 ·unfold oC26
  go_simp
  refine hK.out _ _ KB (fun hHeld=>?_)
  clear hK K
  try simp only[oC26,Act.put,zA,zB,zC]
  refine wpAnyH_ready (rs:=[4]) (by kernel_rfl) (by simp) ?_
  refine AllReadyH.cons (o:=oC24) rfl (fun K hK=>?_) AllReadyH.nil
  unfold oC24
  go_simp
  refine hK.out _ _ KB (fun hHeld=>?_)
  clear hK K
  try simp only[oC24,Act.put,zA,zB,zC]
  refine wpAnyH_ready (rs:=[7]) (by kernel_rfl) (by simp) ?_
  refine AllReadyH.cons (o:=oC27) rfl (fun K hK=>?_) AllReadyH.nil
  refine step_app (v.drew.alloc (.cells #[.int .i64 r0,.int .i64 r1,.int .i64 (r2-1000000000000000)] 78)) (by rfl) _ _ 28 78 (by rfl) (.agg #[.int .i64 0,.int .i64 0,.int .i64 0]) 3 24 Tryz.underlying28 info_bs rfl (by decide) (by decide) N (.slice x.ab x.b.bs.length x.cb) x.b.bs.length (Triples.flat3 x.b.bs) v.drew.heap.size [.int .i64 r0,.int .i64 r1,.int .i64 (r2-1000000000000000)] (by rfl) (by rfl) (row_step (W:=v.drew) ro (one_more v.drew (.cells #[.int .i64 r0,.int .i64 r1,.int .i64 (r2-1000000000000000)] 78))) rfl (litm v.drew _ _ _ (by rfl)) (by simp[Value.oneCell']) (by omega) (Nat.le_trans (show N≤v.drew.heap.size from rn) (by simp)) ?_
  intro g9 c9 u9 o9 gr9
  have BL:∀j,(.slice x.ab x.b.bs.length x.cb:Value).ownBlock=some j→N≤j:=fun j hj=>(World.ownsRow.lt ro j hj).1
  have BM:∀j,(.slice x.ab x.b.bs.length x.cb:Value).ownBlock=some j→j<v.heap.size:=fun j hj=>(World.ownsRow.lt ro j hj).2
  have NE:=NW
  have RA:=zh ((show Rs w0 v.drew p D B N s' x from rs_drew (zu RX)).step (one_more v.drew (.cells #[.int .i64 r0,.int .i64 r1,.int .i64 (r2-1000000000000000)] 78)))
  have R9:=zh (show Pl u9 w0.heap.size p s'∧Box u9 w0.heap.size D (.slice x.aa x.b.ac.length x.ca) (.slice x.ai x.b.ic.length x.ci) (.slice x.ab x.b.bs.length x.cb) (.slice x.al x.b.ls.length x.cl) (.slice x.ats x.b.ts.length x.ct) (.int .i64 x.b.lot) from⟨Ints.Own.kept (zu RA).pl gr9 (fun e=>by have:=BL _ e.symm;omega),(zu RA).bx.kept gr9 (fun e=>by have:=BL _ e.symm;omega)⟩)
  have O9:=zh o9
  have OO:=zh (show u9.ownsRow N 75 2 (.slice x.aa x.b.ac.length x.ca) x.b.ac.length (Pairs.flat x.b.ac)∧u9.ownsRow N 76 2 (.slice x.ai x.b.ic.length x.ci) x.b.ic.length (Pairs.flat x.b.ic)∧u9.ownsRow N 80 5 (.slice x.al x.b.ls.length x.cl) x.b.ls.length (Tup5.flat5 x.b.ls)∧u9.ownsRow N 82 8 (.slice x.ats x.b.ts.length x.ct) x.b.ts.length (Tup8.flat8 x.b.ts) from⟨World.ownsRow.kept (zu RA).o.oa gr9 (row_ne (zu RA).o.oa (zu RA).o.ob (by decide)),World.ownsRow.kept (zu RA).o.oi gr9 (row_ne (zu RA).o.oi (zu RA).o.ob (by decide)),World.ownsRow.kept (zu RA).o.ol gr9 (row_ne (zu RA).o.ol (zu RA).o.ob (by decide)),World.ownsRow.kept (zu RA).o.ot gr9 (row_ne (zu RA).o.ot (zu RA).o.ob (by decide))⟩)
  have RR:=zh (show u9.heap[B]?=some (.cells #[.pointer (some ⟨D,0,none⟩)] 124 (0,0))∧Below w0.heap.size w0 u9∧N≤u9.heap.size from⟨(gr9.block B (by have:=(zu RA).ltB;exact this) (fun e=>by have:=BL _ e.symm;omega)).trans (zu RA).q,(zu RA).b.grown gr9 (zu RA).b.size (fun j hj=>by have:=BL _ hj;omega),Nat.le_trans (zu RA).n gr9.size⟩)
  have KA:=zh (show Kp W u9 from((zu KX).trans (Kp.drew (Kp.below (one_more v.drew (.cells #[.int .i64 r0,.int .i64 r1,.int .i64 (r2-1000000000000000)] 78))))).trans (Kp.grown gr9 (fun j hj=>by obtain⟨c,hc⟩:=row_typ (zu RA).o.ob j hj;exact⟨_,hc,rfl⟩)))
  have fr9:u9.frozen? ⟨D,2,none⟩=false:=(zu R9).2.free 2
  have bc9:=(zu R9).2.c2
  have SB:=zh ((zu R9).2.set2 (.slice (some ⟨g9,0,none⟩) (x.b.bs.length+1) c9))
  have KC:u9.cell? ⟨B,0,none⟩=some (.pointer (some ⟨D,0,none⟩))∧u9.cell? ⟨W.heap.size+1,0,none⟩=some (.int .i64 r0)∧u9.cell? ⟨W.heap.size+1,1,none⟩=some (.int .i64 r1)∧u9.cell? ⟨W.heap.size+1,2,none⟩=some (.int .i64 (r2-1000000000000000)):=⟨gr9.cell KB.1 (fun e=>by have:=BL _ e.symm;simp only at this;omega),gr9.cell KB.2.1 (fun e=>by exact NE e),gr9.cell KB.2.2.1 (fun e=>by exact NE e),gr9.cell KB.2.2.2 (fun e=>by exact NE e)⟩
  have KD:(u9.setCell ⟨D,2,none⟩ (.slice (some ⟨g9,0,none⟩) (x.b.bs.length+1) c9)).cell? ⟨B,0,none⟩=some (.pointer (some ⟨D,0,none⟩))∧(u9.setCell ⟨D,2,none⟩ (.slice (some ⟨g9,0,none⟩) (x.b.bs.length+1) c9)).cell? ⟨W.heap.size+1,0,none⟩=some (.int .i64 r0)∧(u9.setCell ⟨D,2,none⟩ (.slice (some ⟨g9,0,none⟩) (x.b.bs.length+1) c9)).cell? ⟨W.heap.size+1,1,none⟩=some (.int .i64 r1)∧(u9.setCell ⟨D,2,none⟩ (.slice (some ⟨g9,0,none⟩) (x.b.bs.length+1) c9)).cell? ⟨W.heap.size+1,2,none⟩=some (.int .i64 (r2-1000000000000000)):=⟨(cell_grown (zu SB).2 0 (g:=B) (by have:=(zu RA).ltB;have:=gr9.size;omega) (fun e=>dq e.symm)).trans KC.1,(cell_grown (zu SB).2 0 (g:=W.heap.size+1) (by have:=gr9.size;simp at this;omega) (by omega)).trans KC.2.1,(cell_grown (zu SB).2 1 (g:=W.heap.size+1) (by have:=gr9.size;simp at this;omega) (by omega)).trans KC.2.2.1,(cell_grown (zu SB).2 2 (g:=W.heap.size+1) (by have:=gr9.size;simp at this;omega) (by omega)).trans KC.2.2.2⟩
  clear o9
  refine hK.out _ _ KC (fun hHeld=>?_)
  clear hK K
  try simp only[oC27,Act.put,zA,zB,zC]
  refine tk 8 oC28 (.pointer (some ⟨D,0,none⟩)) rfl (by kernel_rfl) (fun _ _ _ h=>h) (by rfl) (fun w hSw=>?_) hHeld ?_
  ·(try dsimp only at hSw)
   unfold oC28
   go_simp
  try simp only[oC28,Act.put,zA,zB,zC]
  refine tk 9 oC29 (.pointer (some ⟨D,2,none⟩)) rfl (by kernel_rfl) (fun _ _ _ h=>h) (by rfl) (fun w hSw=>?_) hHeld ?_
  ·(try dsimp only at hSw)
   unfold oC29
   go_simp
  try simp only[oC29,Act.put,zA,zB,zC]
  refine wpAnyH_ready (rs:=[10]) (by kernel_rfl) (by simp) ?_
  refine AllReadyH.cons (o:=oC210) rfl (fun K hK=>?_) AllReadyH.nil
  unfold oC210
  go_simp
  refine hK.out _ _ KD (fun hHeld=>?_)
  clear hK K
  try simp only[oC210,Act.put,zA,zB,zC]
  refine wpAnyH_done (by kernel_rfl) ?_ _
  clear K0 KB KC KD bc bcD bcA bc9 fr9 eB e0 e1 e2
  go_wp2
  go_end0
  obtain⟨sb,sg⟩:=zu SB
  obtain⟨h0,h1,h3,h4⟩:=zu OO
  obtain⟨q9,b9,n9⟩:=zu RR
  have ln:(x.b.bs++[r3 [r0,r1,r2]]).length=x.b.bs.length+1:=by simp
  refine .inr ⟨rfl,rfl,(zu KA).trans (Kp.grown sg (fun j hj=>by injection hj with hj;subst hj;obtain⟨c,hc⟩:=row_typ (zu R9).2 _ rfl;exact⟨_,hc,rfl⟩)),(⟨x.aa,x.ca,x.ai,x.ci,some ⟨g9,0,none⟩,c9,x.al,x.cl,x.ats,x.ct,⟨x.b.ac,x.b.ic,x.b.bs++[r3 [r0,r1,r2]],x.b.ls,x.b.ts,x.b.lot⟩⟩:Ix),rfl,⟨Ints.Own.kept (zu R9).1 sg (by simpa using pd),?_,⟨row_kept h0 sg d1,row_kept h1 sg d1,?_,row_kept h3 sg d1,row_kept h4 sg d1⟩,(sg.block B (by have:=Array.getElem?_eq_some_iff.1 q9;exact this.1) (fun e=>dq (by injection e with e;exact e.symm))).trans q9,b9.grown sg b9.size (fun j hj=>by injection hj with hj;omega),Nat.le_trans n9 sg.size⟩⟩
  ·show Box _ _ _ (.slice x.aa x.b.ac.length x.ca) (.slice x.ai x.b.ic.length x.ci) (.slice (some ⟨g9,0,none⟩) (x.b.bs++[r3 [r0,r1,r2]]).length c9) (.slice x.al x.b.ls.length x.cl) (.slice x.ats x.b.ts.length x.ct) (.int .i64 x.b.lot)
   rw[ln]
   exact sb
  ·show World.ownsRow _ _ _ _ _ _ _
   have o:=row_kept (zu O9) sg d1
   simp only[ln]
   rw[show Triples.flat3 (x.b.bs++[r3 [r0,r1,r2]])=Triples.flat3 x.b.bs++[.int .i64 r0,.int .i64 r1,.int .i64 (r2-1000000000000000)] from flat_t _ _ _ _]
   exact o
theorem cl3(w0 W:World)(gl cl p D B N:Nat)(xs:List Int)(et:TypeId)(ev:Value)(s:Int)(x:Ix)(G:Pg oz w0 gl cl p D B N xs et ev)(R:Rs w0 W p D B N s x)(hs:s≤9223372036854775807)(hl:x.b.ls.length≤1000):
  Calls Tryz.prog 100 #[.agg #[.slice (some ⟨gl,oz,none⟩) xs.length cl,.pointer (some ⟨p,0,none⟩)],.pointer (some ⟨B,0,none⟩)] W (ClS 3 (gets xs 5 s []) w0 W p D B N x):=by
 obtain⟨l0,l1,g,a,e,z,p0,p1,d0,d1,q0,q1,pd,pq,dq⟩:=G
 have nn:=R.n
 have BU:=zh (show Below W.heap.size W (((W.alloc (.cells #[.slice (some ⟨gl,oz,none⟩) xs.length cl,.pointer (some ⟨p,0,none⟩)] 92)).alloc (.cells #[.int .i64 0,.int .i64 0,.int .i64 0,.int .i64 0,.int .i64 0] 80)).alloc (.cells #[.pointer (some ⟨W.heap.size+1,0,none⟩),.pointer (some ⟨W.heap.size+1,1,none⟩),.pointer (some ⟨W.heap.size+1,2,none⟩),.pointer (some ⟨W.heap.size+1,3,none⟩),.pointer (some ⟨W.heap.size+1,4,none⟩)] 90)) from(((Below.refl _ _).alloc (Nat.le_refl _) _).alloc (by simp) _).alloc (by simp;omega) _)
 have RU:=zh (R.step (zu BU))
 have TU:=zh (show Tg (((W.alloc (.cells #[.slice (some ⟨gl,oz,none⟩) xs.length cl,.pointer (some ⟨p,0,none⟩)] 92)).alloc (.cells #[.int .i64 0,.int .i64 0,.int .i64 0,.int .i64 0,.int .i64 0] 80)).alloc (.cells #[.pointer (some ⟨W.heap.size+1,0,none⟩),.pointer (some ⟨W.heap.size+1,1,none⟩),.pointer (some ⟨W.heap.size+1,2,none⟩),.pointer (some ⟨W.heap.size+1,3,none⟩),.pointer (some ⟨W.heap.size+1,4,none⟩)] 90)) w0.heap.size 80 5 (W.heap.size+1) [.int .i64 0,.int .i64 0,.int .i64 0,.int .i64 0,.int .i64 0] from by
  have:=World.ownsRow.alloc (World.ownsRow_lit (base:=w0.heap.size) (size:=5) (e:=80) (W.alloc (.cells #[.slice (some ⟨gl,oz,none⟩) xs.length cl,.pointer (some ⟨p,0,none⟩)] 92)) #[.int .i64 0,.int .i64 0,.int .i64 0,.int .i64 0,.int .i64 0] 1 (by have:=R.b.size;simp;omega) (by decide) rfl) (.cells #[.pointer (some ⟨W.heap.size+1,0,none⟩),.pointer (some ⟨W.heap.size+1,1,none⟩),.pointer (some ⟨W.heap.size+1,2,none⟩),.pointer (some ⟨W.heap.size+1,3,none⟩),.pointer (some ⟨W.heap.size+1,4,none⟩)] 90)
  simpa[Tg] using this)
 have PU:=zh (show Ptr (((W.alloc (.cells #[.slice (some ⟨gl,oz,none⟩) xs.length cl,.pointer (some ⟨p,0,none⟩)] 92)).alloc (.cells #[.int .i64 0,.int .i64 0,.int .i64 0,.int .i64 0,.int .i64 0] 80)).alloc (.cells #[.pointer (some ⟨W.heap.size+1,0,none⟩),.pointer (some ⟨W.heap.size+1,1,none⟩),.pointer (some ⟨W.heap.size+1,2,none⟩),.pointer (some ⟨W.heap.size+1,3,none⟩),.pointer (some ⟨W.heap.size+1,4,none⟩)] 90)) (W.heap.size+2) (W.heap.size+1) 5 from fun i hi=>by
  have:i=0∨i=1∨i=2∨i=3∨i=4:=by omega
  have q:=litm ((W.alloc (.cells #[.slice (some ⟨gl,oz,none⟩) xs.length cl,.pointer (some ⟨p,0,none⟩)] 92)).alloc (.cells #[.int .i64 0,.int .i64 0,.int .i64 0,.int .i64 0,.int .i64 0] 80)) [.pointer (some ⟨W.heap.size+1,0,none⟩),.pointer (some ⟨W.heap.size+1,1,none⟩),.pointer (some ⟨W.heap.size+1,2,none⟩),.pointer (some ⟨W.heap.size+1,3,none⟩),.pointer (some ⟨W.heap.size+1,4,none⟩)] 90 #[.pointer (some ⟨W.heap.size+1,0,none⟩),.pointer (some ⟨W.heap.size+1,1,none⟩),.pointer (some ⟨W.heap.size+1,2,none⟩),.pointer (some ⟨W.heap.size+1,3,none⟩),.pointer (some ⟨W.heap.size+1,4,none⟩)] rfl i
  rw[show((W.alloc (.cells #[.slice (some ⟨gl,oz,none⟩) xs.length cl,.pointer (some ⟨p,0,none⟩)] 92)).alloc (.cells #[.int .i64 0,.int .i64 0,.int .i64 0,.int .i64 0,.int .i64 0] 80)).heap.size=W.heap.size+2 by simp] at q
  rcases this with rfl|rfl|rfl|rfl|rfl<;>exact q _ rfl)
 have us:((((W.alloc (.cells #[.slice (some ⟨gl,oz,none⟩) xs.length cl,.pointer (some ⟨p,0,none⟩)] 92)).alloc (.cells #[.int .i64 0,.int .i64 0,.int .i64 0,.int .i64 0,.int .i64 0] 80)).alloc (.cells #[.pointer (some ⟨W.heap.size+1,0,none⟩),.pointer (some ⟨W.heap.size+1,1,none⟩),.pointer (some ⟨W.heap.size+1,2,none⟩),.pointer (some ⟨W.heap.size+1,3,none⟩),.pointer (some ⟨W.heap.size+1,4,none⟩)] 90))).heap.size=W.heap.size+3:=by simp
 have MU:=zh (iMust (((W.alloc (.cells #[.slice (some ⟨gl,oz,none⟩) xs.length cl,.pointer (some ⟨p,0,none⟩)] 92)).alloc (.cells #[.int .i64 0,.int .i64 0,.int .i64 0,.int .i64 0,.int .i64 0] 80)).alloc (.cells #[.pointer (some ⟨W.heap.size+1,0,none⟩),.pointer (some ⟨W.heap.size+1,1,none⟩),.pointer (some ⟨W.heap.size+1,2,none⟩),.pointer (some ⟨W.heap.size+1,3,none⟩),.pointer (some ⟨W.heap.size+1,4,none⟩)] 90)) gl cl p w0.heap.size 80 5 (W.heap.size+1) (W.heap.size+2) 5 5 xs s [.int .i64 0,.int .i64 0,.int .i64 0,.int .i64 0,.int .i64 0] ev et hs l0 l1 g (a.below (zu RU).b g) (zu RU).pl (zu TU) (fun i hi=>by
  have:i=0∨i=1∨i=2∨i=3∨i=4:=by omega
  rcases this with rfl|rfl|rfl|rfl|rfl<;>exact⟨0,rfl⟩) (zu PU) (by omega) (by omega) (by omega) (by omega) (by omega) (((zu RU).b.cell (p:=⟨0,0,none⟩) z).trans e) z)
 have GL:=zh (gets_len xs 5 s [])
 have GA:=zh (gets_all xs 5 s [] (by simp))
 have RW:=zh R
 clear a e R TU PU us
 generalize gets xs 5 s []=r at *
 obtain⟨l,s',ok⟩:=r
 go_enter Tryz.func100,Tryz.ntmps100
 go_wp2_with fail
 refine(zu MU).mono ?_
 rintro e u (⟨h1,⟨eu,ee,rfl⟩,h3⟩|⟨h1,rfl,h3,h4,h5⟩)
 ·have b1:=(zu BU)
  have g3:=h3.to (B:=w0.heap.size) (by have:=(zu RW).b.size;have:=b1.size;omega) p0 (by have:=(zu RW).b.size;omega)
  exact⟨rfl,.inl ⟨h1,⟨eu,ee,rfl⟩,(zu RU).b.trans g3⟩⟩
 simp only at h1
 subst h1
 have ll:=(zu GL) rfl
 obtain⟨r0,r1,r2,r3,r4,rfl⟩:=list5 (show l.length=5 from by simpa using ll)
 have GW:=zh (show W.grownBy u (some p) from Gr2.grown (((Gr2.refl W p (W.heap.size+1)).step (zu BU)).trans h3) (by omega))
 have RV:=zh ((zu RW).moved (zu GW) p0 p1 pd pq h4)
 have TV:=zh (show Tg u w0.heap.size 80 5 (W.heap.size+1) [.int .i64 r0,.int .i64 r1,.int .i64 r2,.int .i64 r3,.int .i64 r4] from h5)
 have FA:=zh ((zu GA) rfl)
 have KV:=zh (Kp.grown (zu GW) (fun j hj=>by injection hj with hj;subst hj;exact(zu RW).typP))
 clear ll h3 h4 h5 GL GA MU RU BU GW
 have dl:=(zu TV).lt
 go_wp2_with fail
 have RX:=RV
 have KX:=KV
 have TX:=TV
 clear RV KV TV
 have dl:=(zu TX).lt
 have rl:=(zu RX).ltB
 have rn:=(zu RX).n
 have dD:=(zu RX).bx.lt.2
 have ro:=(zu RX).o.ol
 have e0:u.cell? ⟨W.heap.size+1,0,none⟩=some (.int .i64 r0):=(zu TX).at rfl
 have e1:u.cell? ⟨W.heap.size+1,1,none⟩=some (.int .i64 r1):=(zu TX).at rfl
 have e2:u.cell? ⟨W.heap.size+1,2,none⟩=some (.int .i64 r2):=(zu TX).at rfl
 have e3:u.cell? ⟨W.heap.size+1,3,none⟩=some (.int .i64 r3):=(zu TX).at rfl
 have e4:u.cell? ⟨W.heap.size+1,4,none⟩=some (.int .i64 r4):=(zu TX).at rfl
 have eB:=(zu RX).cellB
 have bc:=(zu RX).bx.c3
 have NW:some (W.heap.size+1)≠(.slice x.al x.b.ls.length x.cl:Value).ownBlock:=fun e=>by
  have:=(World.ownsRow.lt (zu RW).o.ol _ e.symm).2
  omega
 have K0:u.cell? ⟨B,0,none⟩=some (.pointer (some ⟨D,0,none⟩))∧u.cell? ⟨W.heap.size+1,0,none⟩=some (.int .i64 r0)∧u.cell? ⟨W.heap.size+1,1,none⟩=some (.int .i64 r1)∧u.cell? ⟨W.heap.size+1,2,none⟩=some (.int .i64 r2)∧u.cell? ⟨W.heap.size+1,3,none⟩=some (.int .i64 r3)∧u.cell? ⟨W.heap.size+1,4,none⟩=some (.int .i64 r4):=⟨eB,e0,e1,e2,e3,e4⟩
 have KB:(u.drew.alloc (.cells #[.int .i64 r0,.int .i64 r1,.int .i64 r2,.int .i64 r3,.int .i64 r4] 80)).cell? ⟨B,0,none⟩=some (.pointer (some ⟨D,0,none⟩))∧(u.drew.alloc (.cells #[.int .i64 r0,.int .i64 r1,.int .i64 r2,.int .i64 r3,.int .i64 r4] 80)).cell? ⟨W.heap.size+1,0,none⟩=some (.int .i64 r0)∧(u.drew.alloc (.cells #[.int .i64 r0,.int .i64 r1,.int .i64 r2,.int .i64 r3,.int .i64 r4] 80)).cell? ⟨W.heap.size+1,1,none⟩=some (.int .i64 r1)∧(u.drew.alloc (.cells #[.int .i64 r0,.int .i64 r1,.int .i64 r2,.int .i64 r3,.int .i64 r4] 80)).cell? ⟨W.heap.size+1,2,none⟩=some (.int .i64 r2)∧(u.drew.alloc (.cells #[.int .i64 r0,.int .i64 r1,.int .i64 r2,.int .i64 r3,.int .i64 r4] 80)).cell? ⟨W.heap.size+1,3,none⟩=some (.int .i64 r3)∧(u.drew.alloc (.cells #[.int .i64 r0,.int .i64 r1,.int .i64 r2,.int .i64 r3,.int .i64 r4] 80)).cell? ⟨W.heap.size+1,4,none⟩=some (.int .i64 r4):=⟨((one_more u.drew (.cells #[.int .i64 r0,.int .i64 r1,.int .i64 r2,.int .i64 r3,.int .i64 r4] 80)).cell (p:=⟨B,0,none⟩) rl).trans eB,((one_more u.drew (.cells #[.int .i64 r0,.int .i64 r1,.int .i64 r2,.int .i64 r3,.int .i64 r4] 80)).cell (p:=⟨W.heap.size+1,0,none⟩) dl.2).trans e0,((one_more u.drew (.cells #[.int .i64 r0,.int .i64 r1,.int .i64 r2,.int .i64 r3,.int .i64 r4] 80)).cell (p:=⟨W.heap.size+1,1,none⟩) dl.2).trans e1,((one_more u.drew (.cells #[.int .i64 r0,.int .i64 r1,.int .i64 r2,.int .i64 r3,.int .i64 r4] 80)).cell (p:=⟨W.heap.size+1,2,none⟩) dl.2).trans e2,((one_more u.drew (.cells #[.int .i64 r0,.int .i64 r1,.int .i64 r2,.int .i64 r3,.int .i64 r4] 80)).cell (p:=⟨W.heap.size+1,3,none⟩) dl.2).trans e3,((one_more u.drew (.cells #[.int .i64 r0,.int .i64 r1,.int .i64 r2,.int .i64 r3,.int .i64 r4] 80)).cell (p:=⟨W.heap.size+1,4,none⟩) dl.2).trans e4⟩
 have bcD:u.drew.cell? ⟨D,3,none⟩=some (.slice x.al x.b.ls.length x.cl):=bc
 have bcA:(u.alloc (.cells #[.int .i64 r0,.int .i64 r1,.int .i64 r2,.int .i64 r3,.int .i64 r4] 80)).cell? ⟨D,3,none⟩=some (.slice x.al x.b.ls.length x.cl):=((one_more u.drew (.cells #[.int .i64 r0,.int .i64 r1,.int .i64 r2,.int .i64 r3,.int .i64 r4] 80)).cell (p:=⟨D,3,none⟩) dD).trans bc
 refine wp_region_held_drew (S:=(fun w'=>w'.cell? ⟨B,0,none⟩=some (.pointer (some ⟨D,0,none⟩))∧w'.cell? ⟨W.heap.size+1,0,none⟩=some (.int .i64 r0)∧w'.cell? ⟨W.heap.size+1,1,none⟩=some (.int .i64 r1)∧w'.cell? ⟨W.heap.size+1,2,none⟩=some (.int .i64 r2)∧w'.cell? ⟨W.heap.size+1,3,none⟩=some (.int .i64 r3)∧w'.cell? ⟨W.heap.size+1,4,none⟩=some (.int .i64 r4))) (by kernel_rfl) K0 (fun hHeld=>?_)
 refine tk 0 oC30 (.pointer (some ⟨D,0,none⟩)) rfl (by kernel_rfl) (fun _ _ _ h=>h) (by rfl) (fun w hSw=>?_) hHeld ?_
 ·(try dsimp only at hSw)
  unfold oC30
  go_simp
 try simp only[oC30,Act.put,zA,zB,zC]
 refine tk 1 oC31 (.pointer (some ⟨D,0,none⟩)) rfl (by kernel_rfl) (fun _ _ _ h=>h) (by rfl) (fun w hSw=>?_) hHeld ?_
 ·(try dsimp only at hSw)
  unfold oC31
  go_simp
 try simp only[oC31,Act.put,zA,zB,zC]
 refine tk 2 oC32 (.pointer (some ⟨D,0,none⟩)) rfl (by kernel_rfl) (fun _ _ _ h=>h) (by rfl) (fun w hSw=>?_) hHeld ?_
 ·(try dsimp only at hSw)
  unfold oC32
  go_simp
 try simp only[oC32,Act.put,zA,zB,zC]
 refine tk 3 oC33 (.pointer (some ⟨D,3,none⟩)) rfl (by kernel_rfl) (fun _ _ _ h=>h) (by rfl) (fun w hSw=>?_) hHeld ?_
 ·(try dsimp only at hSw)
  unfold oC33
  go_simp
 try simp only[oC33,Act.put,zA,zB,zC]
 refine tk 5 oC35 (.agg #[.int .i64 r0,.int .i64 r1,.int .i64 r2,.int .i64 r3,.int .i64 r4]) rfl (by kernel_rfl) (fun _ _ _ h=>h) (by rfl) (fun w hSw=>?_) hHeld ?_
 ·(try dsimp only at hSw)
  unfold oC35
  go_simp
 try simp only[oC35,Act.put,zA,zB,zC]
 refine wpAnyH_ready (rs:=[4,6]) (by kernel_rfl) (by simp) ?_
 refine AllReadyH.cons (o:=oC34) rfl (fun K hK=>?_) (AllReadyH.cons (o:=oC36) rfl (fun K hK=>?_) AllReadyH.nil)
 ·unfold oC34
  go_simp
  refine hK.out _ _ K0 (fun hHeld=>?_)
  clear hK K
  try simp only[oC34,Act.put,zA,zB,zC]
  refine wpAnyH_ready (rs:=[6]) (by kernel_rfl) (by simp) ?_
  refine AllReadyH.cons (o:=oC36) rfl (fun K hK=>?_) AllReadyH.nil
  unfold oC36
  go_simp
  refine hK.out _ _ KB (fun hHeld=>?_)
  clear hK K
  try simp only[oC36,Act.put,zA,zB,zC]
  refine wpAnyH_ready (rs:=[7]) (by kernel_rfl) (by simp) ?_
  refine AllReadyH.cons (o:=oC37) rfl (fun K hK=>?_) AllReadyH.nil
  refine step_app (u.drew.alloc (.cells #[.int .i64 r0,.int .i64 r1,.int .i64 r2,.int .i64 r3,.int .i64 r4] 80)) (by rfl) _ _ 29 80 (by rfl) (.agg #[.int .i64 0,.int .i64 0,.int .i64 0,.int .i64 0,.int .i64 0]) 5 40 Tryz.underlying29 info_ls rfl (by decide) (by decide) N (.slice x.al x.b.ls.length x.cl) x.b.ls.length (Tup5.flat5 x.b.ls) u.drew.heap.size [.int .i64 r0,.int .i64 r1,.int .i64 r2,.int .i64 r3,.int .i64 r4] (by rfl) (by rfl) (row_step (W:=u.drew) ro (one_more u.drew (.cells #[.int .i64 r0,.int .i64 r1,.int .i64 r2,.int .i64 r3,.int .i64 r4] 80))) rfl (litm u.drew _ _ _ (by rfl)) (by simp[Value.oneCell']) (by omega) (Nat.le_trans (show N≤u.drew.heap.size from rn) (by simp)) ?_
  intro g9 c9 u9 o9 gr9
  have BL:∀j,(.slice x.al x.b.ls.length x.cl:Value).ownBlock=some j→N≤j:=fun j hj=>(World.ownsRow.lt ro j hj).1
  have BM:∀j,(.slice x.al x.b.ls.length x.cl:Value).ownBlock=some j→j<u.heap.size:=fun j hj=>(World.ownsRow.lt ro j hj).2
  have NE:=NW
  have RA:=zh ((show Rs w0 u.drew p D B N s' x from rs_drew (zu RX)).step (one_more u.drew (.cells #[.int .i64 r0,.int .i64 r1,.int .i64 r2,.int .i64 r3,.int .i64 r4] 80)))
  have R9:=zh (show Pl u9 w0.heap.size p s'∧Box u9 w0.heap.size D (.slice x.aa x.b.ac.length x.ca) (.slice x.ai x.b.ic.length x.ci) (.slice x.ab x.b.bs.length x.cb) (.slice x.al x.b.ls.length x.cl) (.slice x.ats x.b.ts.length x.ct) (.int .i64 x.b.lot) from⟨Ints.Own.kept (zu RA).pl gr9 (fun e=>by have:=BL _ e.symm;omega),(zu RA).bx.kept gr9 (fun e=>by have:=BL _ e.symm;omega)⟩)
  have O9:=zh o9
  have OO:=zh (show u9.ownsRow N 75 2 (.slice x.aa x.b.ac.length x.ca) x.b.ac.length (Pairs.flat x.b.ac)∧u9.ownsRow N 76 2 (.slice x.ai x.b.ic.length x.ci) x.b.ic.length (Pairs.flat x.b.ic)∧u9.ownsRow N 78 3 (.slice x.ab x.b.bs.length x.cb) x.b.bs.length (Triples.flat3 x.b.bs)∧u9.ownsRow N 82 8 (.slice x.ats x.b.ts.length x.ct) x.b.ts.length (Tup8.flat8 x.b.ts) from⟨World.ownsRow.kept (zu RA).o.oa gr9 (row_ne (zu RA).o.oa (zu RA).o.ol (by decide)),World.ownsRow.kept (zu RA).o.oi gr9 (row_ne (zu RA).o.oi (zu RA).o.ol (by decide)),World.ownsRow.kept (zu RA).o.ob gr9 (row_ne (zu RA).o.ob (zu RA).o.ol (by decide)),World.ownsRow.kept (zu RA).o.ot gr9 (row_ne (zu RA).o.ot (zu RA).o.ol (by decide))⟩)
  have RR:=zh (show u9.heap[B]?=some (.cells #[.pointer (some ⟨D,0,none⟩)] 124 (0,0))∧Below w0.heap.size w0 u9∧N≤u9.heap.size from⟨(gr9.block B (by have:=(zu RA).ltB;exact this) (fun e=>by have:=BL _ e.symm;omega)).trans (zu RA).q,(zu RA).b.grown gr9 (zu RA).b.size (fun j hj=>by have:=BL _ hj;omega),Nat.le_trans (zu RA).n gr9.size⟩)
  have KA:=zh (show Kp W u9 from((zu KX).trans (Kp.drew (Kp.below (one_more u.drew (.cells #[.int .i64 r0,.int .i64 r1,.int .i64 r2,.int .i64 r3,.int .i64 r4] 80))))).trans (Kp.grown gr9 (fun j hj=>by obtain⟨c,hc⟩:=row_typ (zu RA).o.ol j hj;exact⟨_,hc,rfl⟩)))
  have fr9:u9.frozen? ⟨D,3,none⟩=false:=(zu R9).2.free 3
  have bc9:=(zu R9).2.c3
  have SB:=zh ((zu R9).2.set3 (.slice (some ⟨g9,0,none⟩) (x.b.ls.length+1) c9))
  have KC:u9.cell? ⟨B,0,none⟩=some (.pointer (some ⟨D,0,none⟩))∧u9.cell? ⟨W.heap.size+1,0,none⟩=some (.int .i64 r0)∧u9.cell? ⟨W.heap.size+1,1,none⟩=some (.int .i64 r1)∧u9.cell? ⟨W.heap.size+1,2,none⟩=some (.int .i64 r2)∧u9.cell? ⟨W.heap.size+1,3,none⟩=some (.int .i64 r3)∧u9.cell? ⟨W.heap.size+1,4,none⟩=some (.int .i64 r4):=⟨gr9.cell KB.1 (fun e=>by have:=BL _ e.symm;simp only at this;omega),gr9.cell KB.2.1 (fun e=>by exact NE e),gr9.cell KB.2.2.1 (fun e=>by exact NE e),gr9.cell KB.2.2.2.1 (fun e=>by exact NE e),gr9.cell KB.2.2.2.2.1 (fun e=>by exact NE e),gr9.cell KB.2.2.2.2.2 (fun e=>by exact NE e)⟩
  have KD:(u9.setCell ⟨D,3,none⟩ (.slice (some ⟨g9,0,none⟩) (x.b.ls.length+1) c9)).cell? ⟨B,0,none⟩=some (.pointer (some ⟨D,0,none⟩))∧(u9.setCell ⟨D,3,none⟩ (.slice (some ⟨g9,0,none⟩) (x.b.ls.length+1) c9)).cell? ⟨W.heap.size+1,0,none⟩=some (.int .i64 r0)∧(u9.setCell ⟨D,3,none⟩ (.slice (some ⟨g9,0,none⟩) (x.b.ls.length+1) c9)).cell? ⟨W.heap.size+1,1,none⟩=some (.int .i64 r1)∧(u9.setCell ⟨D,3,none⟩ (.slice (some ⟨g9,0,none⟩) (x.b.ls.length+1) c9)).cell? ⟨W.heap.size+1,2,none⟩=some (.int .i64 r2)∧(u9.setCell ⟨D,3,none⟩ (.slice (some ⟨g9,0,none⟩) (x.b.ls.length+1) c9)).cell? ⟨W.heap.size+1,3,none⟩=some (.int .i64 r3)∧(u9.setCell ⟨D,3,none⟩ (.slice (some ⟨g9,0,none⟩) (x.b.ls.length+1) c9)).cell? ⟨W.heap.size+1,4,none⟩=some (.int .i64 r4):=⟨(cell_grown (zu SB).2 0 (g:=B) (by have:=(zu RA).ltB;have:=gr9.size;omega) (fun e=>dq e.symm)).trans KC.1,(cell_grown (zu SB).2 0 (g:=W.heap.size+1) (by have:=gr9.size;simp at this;omega) (by omega)).trans KC.2.1,(cell_grown (zu SB).2 1 (g:=W.heap.size+1) (by have:=gr9.size;simp at this;omega) (by omega)).trans KC.2.2.1,(cell_grown (zu SB).2 2 (g:=W.heap.size+1) (by have:=gr9.size;simp at this;omega) (by omega)).trans KC.2.2.2.1,(cell_grown (zu SB).2 3 (g:=W.heap.size+1) (by have:=gr9.size;simp at this;omega) (by omega)).trans KC.2.2.2.2.1,(cell_grown (zu SB).2 4 (g:=W.heap.size+1) (by have:=gr9.size;simp at this;omega) (by omega)).trans KC.2.2.2.2.2⟩
  clear o9
  refine hK.out _ _ KC (fun hHeld=>?_)
  clear hK K
  try simp only[oC37,Act.put,zA,zB,zC]
  refine tk 8 oC38 (.pointer (some ⟨D,0,none⟩)) rfl (by kernel_rfl) (fun _ _ _ h=>h) (by rfl) (fun w hSw=>?_) hHeld ?_
  ·(try dsimp only at hSw)
   unfold oC38
   go_simp
  try simp only[oC38,Act.put,zA,zB,zC]
  refine tk 9 oC39 (.pointer (some ⟨D,3,none⟩)) rfl (by kernel_rfl) (fun _ _ _ h=>h) (by rfl) (fun w hSw=>?_) hHeld ?_
  ·(try dsimp only at hSw)
   unfold oC39
   go_simp
  try simp only[oC39,Act.put,zA,zB,zC]
  refine wpAnyH_ready (rs:=[10]) (by kernel_rfl) (by simp) ?_
  refine AllReadyH.cons (o:=oC310) rfl (fun K hK=>?_) AllReadyH.nil
  unfold oC310
  go_simp
  refine hK.out _ _ KD (fun hHeld=>?_)
  clear hK K
  try simp only[oC310,Act.put,zA,zB,zC]
  refine wpAnyH_done (by kernel_rfl) ?_ _
  clear K0 KB KC KD bc bcD bcA bc9 fr9 eB e0 e1 e2 e3 e4
  go_wp2
  go_end0
  obtain⟨sb,sg⟩:=zu SB
  obtain⟨h0,h1,h2,h4⟩:=zu OO
  obtain⟨q9,b9,n9⟩:=zu RR
  have ln:(x.b.ls++[r5 [r0,r1,r2,r3,r4]]).length=x.b.ls.length+1:=by simp
  refine .inr ⟨rfl,rfl,(zu KA).trans (Kp.grown sg (fun j hj=>by injection hj with hj;subst hj;obtain⟨c,hc⟩:=row_typ (zu R9).2 _ rfl;exact⟨_,hc,rfl⟩)),(⟨x.aa,x.ca,x.ai,x.ci,x.ab,x.cb,some ⟨g9,0,none⟩,c9,x.ats,x.ct,⟨x.b.ac,x.b.ic,x.b.bs,x.b.ls++[r5 [r0,r1,r2,r3,r4]],x.b.ts,x.b.lot⟩⟩:Ix),rfl,⟨Ints.Own.kept (zu R9).1 sg (by simpa using pd),?_,⟨row_kept h0 sg d1,row_kept h1 sg d1,row_kept h2 sg d1,?_,row_kept h4 sg d1⟩,(sg.block B (by have:=Array.getElem?_eq_some_iff.1 q9;exact this.1) (fun e=>dq (by injection e with e;exact e.symm))).trans q9,b9.grown sg b9.size (fun j hj=>by injection hj with hj;omega),Nat.le_trans n9 sg.size⟩⟩
  ·show Box _ _ _ (.slice x.aa x.b.ac.length x.ca) (.slice x.ai x.b.ic.length x.ci) (.slice x.ab x.b.bs.length x.cb) (.slice (some ⟨g9,0,none⟩) (x.b.ls++[r5 [r0,r1,r2,r3,r4]]).length c9) (.slice x.ats x.b.ts.length x.ct) (.int .i64 x.b.lot)
   rw[ln]
   exact sb
  ·show World.ownsRow _ _ _ _ _ _ _
   have o:=row_kept (zu O9) sg d1
   simp only[ln]
   rw[show Tup5.flat5 (x.b.ls++[r5 [r0,r1,r2,r3,r4]])=Tup5.flat5 x.b.ls++[.int .i64 r0,.int .i64 r1,.int .i64 r2,.int .i64 r3,.int .i64 r4] from flat_f _ _ _ _ _ _]
   exact o
 ·unfold oC36
  go_simp
  refine hK.out _ _ KB (fun hHeld=>?_)
  clear hK K
  try simp only[oC36,Act.put,zA,zB,zC]
  refine wpAnyH_ready (rs:=[4]) (by kernel_rfl) (by simp) ?_
  refine AllReadyH.cons (o:=oC34) rfl (fun K hK=>?_) AllReadyH.nil
  unfold oC34
  go_simp
  refine hK.out _ _ KB (fun hHeld=>?_)
  clear hK K
  try simp only[oC34,Act.put,zA,zB,zC]
  refine wpAnyH_ready (rs:=[7]) (by kernel_rfl) (by simp) ?_
  refine AllReadyH.cons (o:=oC37) rfl (fun K hK=>?_) AllReadyH.nil
  refine step_app (u.drew.alloc (.cells #[.int .i64 r0,.int .i64 r1,.int .i64 r2,.int .i64 r3,.int .i64 r4] 80)) (by rfl) _ _ 29 80 (by rfl) (.agg #[.int .i64 0,.int .i64 0,.int .i64 0,.int .i64 0,.int .i64 0]) 5 40 Tryz.underlying29 info_ls rfl (by decide) (by decide) N (.slice x.al x.b.ls.length x.cl) x.b.ls.length (Tup5.flat5 x.b.ls) u.drew.heap.size [.int .i64 r0,.int .i64 r1,.int .i64 r2,.int .i64 r3,.int .i64 r4] (by rfl) (by rfl) (row_step (W:=u.drew) ro (one_more u.drew (.cells #[.int .i64 r0,.int .i64 r1,.int .i64 r2,.int .i64 r3,.int .i64 r4] 80))) rfl (litm u.drew _ _ _ (by rfl)) (by simp[Value.oneCell']) (by omega) (Nat.le_trans (show N≤u.drew.heap.size from rn) (by simp)) ?_
  intro g9 c9 u9 o9 gr9
  have BL:∀j,(.slice x.al x.b.ls.length x.cl:Value).ownBlock=some j→N≤j:=fun j hj=>(World.ownsRow.lt ro j hj).1
  have BM:∀j,(.slice x.al x.b.ls.length x.cl:Value).ownBlock=some j→j<u.heap.size:=fun j hj=>(World.ownsRow.lt ro j hj).2
  have NE:=NW
  have RA:=zh ((show Rs w0 u.drew p D B N s' x from rs_drew (zu RX)).step (one_more u.drew (.cells #[.int .i64 r0,.int .i64 r1,.int .i64 r2,.int .i64 r3,.int .i64 r4] 80)))
  have R9:=zh (show Pl u9 w0.heap.size p s'∧Box u9 w0.heap.size D (.slice x.aa x.b.ac.length x.ca) (.slice x.ai x.b.ic.length x.ci) (.slice x.ab x.b.bs.length x.cb) (.slice x.al x.b.ls.length x.cl) (.slice x.ats x.b.ts.length x.ct) (.int .i64 x.b.lot) from⟨Ints.Own.kept (zu RA).pl gr9 (fun e=>by have:=BL _ e.symm;omega),(zu RA).bx.kept gr9 (fun e=>by have:=BL _ e.symm;omega)⟩)
  have O9:=zh o9
  have OO:=zh (show u9.ownsRow N 75 2 (.slice x.aa x.b.ac.length x.ca) x.b.ac.length (Pairs.flat x.b.ac)∧u9.ownsRow N 76 2 (.slice x.ai x.b.ic.length x.ci) x.b.ic.length (Pairs.flat x.b.ic)∧u9.ownsRow N 78 3 (.slice x.ab x.b.bs.length x.cb) x.b.bs.length (Triples.flat3 x.b.bs)∧u9.ownsRow N 82 8 (.slice x.ats x.b.ts.length x.ct) x.b.ts.length (Tup8.flat8 x.b.ts) from⟨World.ownsRow.kept (zu RA).o.oa gr9 (row_ne (zu RA).o.oa (zu RA).o.ol (by decide)),World.ownsRow.kept (zu RA).o.oi gr9 (row_ne (zu RA).o.oi (zu RA).o.ol (by decide)),World.ownsRow.kept (zu RA).o.ob gr9 (row_ne (zu RA).o.ob (zu RA).o.ol (by decide)),World.ownsRow.kept (zu RA).o.ot gr9 (row_ne (zu RA).o.ot (zu RA).o.ol (by decide))⟩)
  have RR:=zh (show u9.heap[B]?=some (.cells #[.pointer (some ⟨D,0,none⟩)] 124 (0,0))∧Below w0.heap.size w0 u9∧N≤u9.heap.size from⟨(gr9.block B (by have:=(zu RA).ltB;exact this) (fun e=>by have:=BL _ e.symm;omega)).trans (zu RA).q,(zu RA).b.grown gr9 (zu RA).b.size (fun j hj=>by have:=BL _ hj;omega),Nat.le_trans (zu RA).n gr9.size⟩)
  have KA:=zh (show Kp W u9 from((zu KX).trans (Kp.drew (Kp.below (one_more u.drew (.cells #[.int .i64 r0,.int .i64 r1,.int .i64 r2,.int .i64 r3,.int .i64 r4] 80))))).trans (Kp.grown gr9 (fun j hj=>by obtain⟨c,hc⟩:=row_typ (zu RA).o.ol j hj;exact⟨_,hc,rfl⟩)))
  have fr9:u9.frozen? ⟨D,3,none⟩=false:=(zu R9).2.free 3
  have bc9:=(zu R9).2.c3
  have SB:=zh ((zu R9).2.set3 (.slice (some ⟨g9,0,none⟩) (x.b.ls.length+1) c9))
  have KC:u9.cell? ⟨B,0,none⟩=some (.pointer (some ⟨D,0,none⟩))∧u9.cell? ⟨W.heap.size+1,0,none⟩=some (.int .i64 r0)∧u9.cell? ⟨W.heap.size+1,1,none⟩=some (.int .i64 r1)∧u9.cell? ⟨W.heap.size+1,2,none⟩=some (.int .i64 r2)∧u9.cell? ⟨W.heap.size+1,3,none⟩=some (.int .i64 r3)∧u9.cell? ⟨W.heap.size+1,4,none⟩=some (.int .i64 r4):=⟨gr9.cell KB.1 (fun e=>by have:=BL _ e.symm;simp only at this;omega),gr9.cell KB.2.1 (fun e=>by exact NE e),gr9.cell KB.2.2.1 (fun e=>by exact NE e),gr9.cell KB.2.2.2.1 (fun e=>by exact NE e),gr9.cell KB.2.2.2.2.1 (fun e=>by exact NE e),gr9.cell KB.2.2.2.2.2 (fun e=>by exact NE e)⟩
  have KD:(u9.setCell ⟨D,3,none⟩ (.slice (some ⟨g9,0,none⟩) (x.b.ls.length+1) c9)).cell? ⟨B,0,none⟩=some (.pointer (some ⟨D,0,none⟩))∧(u9.setCell ⟨D,3,none⟩ (.slice (some ⟨g9,0,none⟩) (x.b.ls.length+1) c9)).cell? ⟨W.heap.size+1,0,none⟩=some (.int .i64 r0)∧(u9.setCell ⟨D,3,none⟩ (.slice (some ⟨g9,0,none⟩) (x.b.ls.length+1) c9)).cell? ⟨W.heap.size+1,1,none⟩=some (.int .i64 r1)∧(u9.setCell ⟨D,3,none⟩ (.slice (some ⟨g9,0,none⟩) (x.b.ls.length+1) c9)).cell? ⟨W.heap.size+1,2,none⟩=some (.int .i64 r2)∧(u9.setCell ⟨D,3,none⟩ (.slice (some ⟨g9,0,none⟩) (x.b.ls.length+1) c9)).cell? ⟨W.heap.size+1,3,none⟩=some (.int .i64 r3)∧(u9.setCell ⟨D,3,none⟩ (.slice (some ⟨g9,0,none⟩) (x.b.ls.length+1) c9)).cell? ⟨W.heap.size+1,4,none⟩=some (.int .i64 r4):=⟨(cell_grown (zu SB).2 0 (g:=B) (by have:=(zu RA).ltB;have:=gr9.size;omega) (fun e=>dq e.symm)).trans KC.1,(cell_grown (zu SB).2 0 (g:=W.heap.size+1) (by have:=gr9.size;simp at this;omega) (by omega)).trans KC.2.1,(cell_grown (zu SB).2 1 (g:=W.heap.size+1) (by have:=gr9.size;simp at this;omega) (by omega)).trans KC.2.2.1,(cell_grown (zu SB).2 2 (g:=W.heap.size+1) (by have:=gr9.size;simp at this;omega) (by omega)).trans KC.2.2.2.1,(cell_grown (zu SB).2 3 (g:=W.heap.size+1) (by have:=gr9.size;simp at this;omega) (by omega)).trans KC.2.2.2.2.1,(cell_grown (zu SB).2 4 (g:=W.heap.size+1) (by have:=gr9.size;simp at this;omega) (by omega)).trans KC.2.2.2.2.2⟩
  clear o9
  refine hK.out _ _ KC (fun hHeld=>?_)
  clear hK K
  try simp only[oC37,Act.put,zA,zB,zC]
  refine tk 8 oC38 (.pointer (some ⟨D,0,none⟩)) rfl (by kernel_rfl) (fun _ _ _ h=>h) (by rfl) (fun w hSw=>?_) hHeld ?_
  ·(try dsimp only at hSw)
   unfold oC38
   go_simp
  try simp only[oC38,Act.put,zA,zB,zC]
  refine tk 9 oC39 (.pointer (some ⟨D,3,none⟩)) rfl (by kernel_rfl) (fun _ _ _ h=>h) (by rfl) (fun w hSw=>?_) hHeld ?_
  ·(try dsimp only at hSw)
   unfold oC39
   go_simp
  try simp only[oC39,Act.put,zA,zB,zC]
  refine wpAnyH_ready (rs:=[10]) (by kernel_rfl) (by simp) ?_
  refine AllReadyH.cons (o:=oC310) rfl (fun K hK=>?_) AllReadyH.nil
  unfold oC310
  go_simp
  refine hK.out _ _ KD (fun hHeld=>?_)
  clear hK K
  try simp only[oC310,Act.put,zA,zB,zC]
  refine wpAnyH_done (by kernel_rfl) ?_ _
  clear K0 KB KC KD bc bcD bcA bc9 fr9 eB e0 e1 e2 e3 e4
  go_wp2
  go_end0
  obtain⟨sb,sg⟩:=zu SB
  obtain⟨h0,h1,h2,h4⟩:=zu OO
  obtain⟨q9,b9,n9⟩:=zu RR
  have ln:(x.b.ls++[r5 [r0,r1,r2,r3,r4]]).length=x.b.ls.length+1:=by simp
  refine .inr ⟨rfl,rfl,(zu KA).trans (Kp.grown sg (fun j hj=>by injection hj with hj;subst hj;obtain⟨c,hc⟩:=row_typ (zu R9).2 _ rfl;exact⟨_,hc,rfl⟩)),(⟨x.aa,x.ca,x.ai,x.ci,x.ab,x.cb,some ⟨g9,0,none⟩,c9,x.ats,x.ct,⟨x.b.ac,x.b.ic,x.b.bs,x.b.ls++[r5 [r0,r1,r2,r3,r4]],x.b.ts,x.b.lot⟩⟩:Ix),rfl,⟨Ints.Own.kept (zu R9).1 sg (by simpa using pd),?_,⟨row_kept h0 sg d1,row_kept h1 sg d1,row_kept h2 sg d1,?_,row_kept h4 sg d1⟩,(sg.block B (by have:=Array.getElem?_eq_some_iff.1 q9;exact this.1) (fun e=>dq (by injection e with e;exact e.symm))).trans q9,b9.grown sg b9.size (fun j hj=>by injection hj with hj;omega),Nat.le_trans n9 sg.size⟩⟩
  ·show Box _ _ _ (.slice x.aa x.b.ac.length x.ca) (.slice x.ai x.b.ic.length x.ci) (.slice x.ab x.b.bs.length x.cb) (.slice (some ⟨g9,0,none⟩) (x.b.ls++[r5 [r0,r1,r2,r3,r4]]).length c9) (.slice x.ats x.b.ts.length x.ct) (.int .i64 x.b.lot)
   rw[ln]
   exact sb
  ·show World.ownsRow _ _ _ _ _ _ _
   have o:=row_kept (zu O9) sg d1
   simp only[ln]
   rw[show Tup5.flat5 (x.b.ls++[r5 [r0,r1,r2,r3,r4]])=Tup5.flat5 x.b.ls++[.int .i64 r0,.int .i64 r1,.int .i64 r2,.int .i64 r3,.int .i64 r4] from flat_f _ _ _ _ _ _]
   exact o
theorem cl4(w0 W:World)(gl cl p D B N:Nat)(xs:List Int)(et:TypeId)(ev:Value)(s:Int)(x:Ix)(G:Pg oz w0 gl cl p D B N xs et ev)(R:Rs w0 W p D B N s x)(hs:s≤9223372036854775807)(hl:x.b.ts.length≤1000):
  Calls Tryz.prog 101 #[.agg #[.slice (some ⟨gl,oz,none⟩) xs.length cl,.pointer (some ⟨p,0,none⟩)],.pointer (some ⟨B,0,none⟩)] W (ClS 4 (gets xs 8 s []) w0 W p D B N x):=by
 obtain⟨l0,l1,g,a,e,z,p0,p1,d0,d1,q0,q1,pd,pq,dq⟩:=G
 have nn:=R.n
 have BU:=zh (show Below W.heap.size W (((W.alloc (.cells #[.slice (some ⟨gl,oz,none⟩) xs.length cl,.pointer (some ⟨p,0,none⟩)] 92)).alloc (.cells #[.int .i64 0,.int .i64 0,.int .i64 0,.int .i64 0,.int .i64 0,.int .i64 0,.int .i64 0,.int .i64 0] 82)).alloc (.cells #[.pointer (some ⟨W.heap.size+1,0,none⟩),.pointer (some ⟨W.heap.size+1,1,none⟩),.pointer (some ⟨W.heap.size+1,2,none⟩),.pointer (some ⟨W.heap.size+1,3,none⟩),.pointer (some ⟨W.heap.size+1,4,none⟩),.pointer (some ⟨W.heap.size+1,5,none⟩),.pointer (some ⟨W.heap.size+1,6,none⟩),.pointer (some ⟨W.heap.size+1,7,none⟩)] 90)) from(((Below.refl _ _).alloc (Nat.le_refl _) _).alloc (by simp) _).alloc (by simp;omega) _)
 have RU:=zh (R.step (zu BU))
 have TU:=zh (show Tg (((W.alloc (.cells #[.slice (some ⟨gl,oz,none⟩) xs.length cl,.pointer (some ⟨p,0,none⟩)] 92)).alloc (.cells #[.int .i64 0,.int .i64 0,.int .i64 0,.int .i64 0,.int .i64 0,.int .i64 0,.int .i64 0,.int .i64 0] 82)).alloc (.cells #[.pointer (some ⟨W.heap.size+1,0,none⟩),.pointer (some ⟨W.heap.size+1,1,none⟩),.pointer (some ⟨W.heap.size+1,2,none⟩),.pointer (some ⟨W.heap.size+1,3,none⟩),.pointer (some ⟨W.heap.size+1,4,none⟩),.pointer (some ⟨W.heap.size+1,5,none⟩),.pointer (some ⟨W.heap.size+1,6,none⟩),.pointer (some ⟨W.heap.size+1,7,none⟩)] 90)) w0.heap.size 82 8 (W.heap.size+1) [.int .i64 0,.int .i64 0,.int .i64 0,.int .i64 0,.int .i64 0,.int .i64 0,.int .i64 0,.int .i64 0] from by
  have:=World.ownsRow.alloc (World.ownsRow_lit (base:=w0.heap.size) (size:=8) (e:=82) (W.alloc (.cells #[.slice (some ⟨gl,oz,none⟩) xs.length cl,.pointer (some ⟨p,0,none⟩)] 92)) #[.int .i64 0,.int .i64 0,.int .i64 0,.int .i64 0,.int .i64 0,.int .i64 0,.int .i64 0,.int .i64 0] 1 (by have:=R.b.size;simp;omega) (by decide) rfl) (.cells #[.pointer (some ⟨W.heap.size+1,0,none⟩),.pointer (some ⟨W.heap.size+1,1,none⟩),.pointer (some ⟨W.heap.size+1,2,none⟩),.pointer (some ⟨W.heap.size+1,3,none⟩),.pointer (some ⟨W.heap.size+1,4,none⟩),.pointer (some ⟨W.heap.size+1,5,none⟩),.pointer (some ⟨W.heap.size+1,6,none⟩),.pointer (some ⟨W.heap.size+1,7,none⟩)] 90)
  simpa[Tg] using this)
 have PU:=zh (show Ptr (((W.alloc (.cells #[.slice (some ⟨gl,oz,none⟩) xs.length cl,.pointer (some ⟨p,0,none⟩)] 92)).alloc (.cells #[.int .i64 0,.int .i64 0,.int .i64 0,.int .i64 0,.int .i64 0,.int .i64 0,.int .i64 0,.int .i64 0] 82)).alloc (.cells #[.pointer (some ⟨W.heap.size+1,0,none⟩),.pointer (some ⟨W.heap.size+1,1,none⟩),.pointer (some ⟨W.heap.size+1,2,none⟩),.pointer (some ⟨W.heap.size+1,3,none⟩),.pointer (some ⟨W.heap.size+1,4,none⟩),.pointer (some ⟨W.heap.size+1,5,none⟩),.pointer (some ⟨W.heap.size+1,6,none⟩),.pointer (some ⟨W.heap.size+1,7,none⟩)] 90)) (W.heap.size+2) (W.heap.size+1) 8 from fun i hi=>by
  have:i=0∨i=1∨i=2∨i=3∨i=4∨i=5∨i=6∨i=7:=by omega
  have q:=litm ((W.alloc (.cells #[.slice (some ⟨gl,oz,none⟩) xs.length cl,.pointer (some ⟨p,0,none⟩)] 92)).alloc (.cells #[.int .i64 0,.int .i64 0,.int .i64 0,.int .i64 0,.int .i64 0,.int .i64 0,.int .i64 0,.int .i64 0] 82)) [.pointer (some ⟨W.heap.size+1,0,none⟩),.pointer (some ⟨W.heap.size+1,1,none⟩),.pointer (some ⟨W.heap.size+1,2,none⟩),.pointer (some ⟨W.heap.size+1,3,none⟩),.pointer (some ⟨W.heap.size+1,4,none⟩),.pointer (some ⟨W.heap.size+1,5,none⟩),.pointer (some ⟨W.heap.size+1,6,none⟩),.pointer (some ⟨W.heap.size+1,7,none⟩)] 90 #[.pointer (some ⟨W.heap.size+1,0,none⟩),.pointer (some ⟨W.heap.size+1,1,none⟩),.pointer (some ⟨W.heap.size+1,2,none⟩),.pointer (some ⟨W.heap.size+1,3,none⟩),.pointer (some ⟨W.heap.size+1,4,none⟩),.pointer (some ⟨W.heap.size+1,5,none⟩),.pointer (some ⟨W.heap.size+1,6,none⟩),.pointer (some ⟨W.heap.size+1,7,none⟩)] rfl i
  rw[show((W.alloc (.cells #[.slice (some ⟨gl,oz,none⟩) xs.length cl,.pointer (some ⟨p,0,none⟩)] 92)).alloc (.cells #[.int .i64 0,.int .i64 0,.int .i64 0,.int .i64 0,.int .i64 0,.int .i64 0,.int .i64 0,.int .i64 0] 82)).heap.size=W.heap.size+2 by simp] at q
  rcases this with rfl|rfl|rfl|rfl|rfl|rfl|rfl|rfl<;>exact q _ rfl)
 have us:((((W.alloc (.cells #[.slice (some ⟨gl,oz,none⟩) xs.length cl,.pointer (some ⟨p,0,none⟩)] 92)).alloc (.cells #[.int .i64 0,.int .i64 0,.int .i64 0,.int .i64 0,.int .i64 0,.int .i64 0,.int .i64 0,.int .i64 0] 82)).alloc (.cells #[.pointer (some ⟨W.heap.size+1,0,none⟩),.pointer (some ⟨W.heap.size+1,1,none⟩),.pointer (some ⟨W.heap.size+1,2,none⟩),.pointer (some ⟨W.heap.size+1,3,none⟩),.pointer (some ⟨W.heap.size+1,4,none⟩),.pointer (some ⟨W.heap.size+1,5,none⟩),.pointer (some ⟨W.heap.size+1,6,none⟩),.pointer (some ⟨W.heap.size+1,7,none⟩)] 90))).heap.size=W.heap.size+3:=by simp
 have MU:=zh (iMust (((W.alloc (.cells #[.slice (some ⟨gl,oz,none⟩) xs.length cl,.pointer (some ⟨p,0,none⟩)] 92)).alloc (.cells #[.int .i64 0,.int .i64 0,.int .i64 0,.int .i64 0,.int .i64 0,.int .i64 0,.int .i64 0,.int .i64 0] 82)).alloc (.cells #[.pointer (some ⟨W.heap.size+1,0,none⟩),.pointer (some ⟨W.heap.size+1,1,none⟩),.pointer (some ⟨W.heap.size+1,2,none⟩),.pointer (some ⟨W.heap.size+1,3,none⟩),.pointer (some ⟨W.heap.size+1,4,none⟩),.pointer (some ⟨W.heap.size+1,5,none⟩),.pointer (some ⟨W.heap.size+1,6,none⟩),.pointer (some ⟨W.heap.size+1,7,none⟩)] 90)) gl cl p w0.heap.size 82 8 (W.heap.size+1) (W.heap.size+2) 8 8 xs s [.int .i64 0,.int .i64 0,.int .i64 0,.int .i64 0,.int .i64 0,.int .i64 0,.int .i64 0,.int .i64 0] ev et hs l0 l1 g (a.below (zu RU).b g) (zu RU).pl (zu TU) (fun i hi=>by
  have:i=0∨i=1∨i=2∨i=3∨i=4∨i=5∨i=6∨i=7:=by omega
  rcases this with rfl|rfl|rfl|rfl|rfl|rfl|rfl|rfl<;>exact⟨0,rfl⟩) (zu PU) (by omega) (by omega) (by omega) (by omega) (by omega) (((zu RU).b.cell (p:=⟨0,0,none⟩) z).trans e) z)
 have GL:=zh (gets_len xs 8 s [])
 have GA:=zh (gets_all xs 8 s [] (by simp))
 have RW:=zh R
 clear a e R TU PU us
 generalize gets xs 8 s []=r at *
 obtain⟨l,s',ok⟩:=r
 go_enter Tryz.func101,Tryz.ntmps101
 go_wp2_with fail
 refine(zu MU).mono ?_
 rintro e u (⟨h1,⟨eu,ee,rfl⟩,h3⟩|⟨h1,rfl,h3,h4,h5⟩)
 ·have b1:=(zu BU)
  have g3:=h3.to (B:=w0.heap.size) (by have:=(zu RW).b.size;have:=b1.size;omega) p0 (by have:=(zu RW).b.size;omega)
  exact⟨rfl,.inl ⟨h1,⟨eu,ee,rfl⟩,(zu RU).b.trans g3⟩⟩
 simp only at h1
 subst h1
 have ll:=(zu GL) rfl
 obtain⟨r0,r1,r2,r3,r4,r5,r6,r7,rfl⟩:=list8 (show l.length=8 from by simpa using ll)
 have GW:=zh (show W.grownBy u (some p) from Gr2.grown (((Gr2.refl W p (W.heap.size+1)).step (zu BU)).trans h3) (by omega))
 have RV:=zh ((zu RW).moved (zu GW) p0 p1 pd pq h4)
 have TV:=zh (show Tg u w0.heap.size 82 8 (W.heap.size+1) [.int .i64 r0,.int .i64 r1,.int .i64 r2,.int .i64 r3,.int .i64 r4,.int .i64 r5,.int .i64 r6,.int .i64 r7] from h5)
 have FA:=zh ((zu GA) rfl)
 have KV:=zh (Kp.grown (zu GW) (fun j hj=>by injection hj with hj;subst hj;exact(zu RW).typP))
 clear ll h3 h4 h5 GL GA MU RU BU GW
 have dl:=(zu TV).lt
 go_wp2_with fail
 have RX:=RV
 have KX:=KV
 have TX:=TV
 clear RV KV TV
 have dl:=(zu TX).lt
 have rl:=(zu RX).ltB
 have rn:=(zu RX).n
 have dD:=(zu RX).bx.lt.2
 have ro:=(zu RX).o.ot
 have e0:u.cell? ⟨W.heap.size+1,0,none⟩=some (.int .i64 r0):=(zu TX).at rfl
 have e1:u.cell? ⟨W.heap.size+1,1,none⟩=some (.int .i64 r1):=(zu TX).at rfl
 have e2:u.cell? ⟨W.heap.size+1,2,none⟩=some (.int .i64 r2):=(zu TX).at rfl
 have e3:u.cell? ⟨W.heap.size+1,3,none⟩=some (.int .i64 r3):=(zu TX).at rfl
 have e4:u.cell? ⟨W.heap.size+1,4,none⟩=some (.int .i64 r4):=(zu TX).at rfl
 have e5:u.cell? ⟨W.heap.size+1,5,none⟩=some (.int .i64 r5):=(zu TX).at rfl
 have e6:u.cell? ⟨W.heap.size+1,6,none⟩=some (.int .i64 r6):=(zu TX).at rfl
 have e7:u.cell? ⟨W.heap.size+1,7,none⟩=some (.int .i64 r7):=(zu TX).at rfl
 have eB:=(zu RX).cellB
 have bc:=(zu RX).bx.c4
 have NW:some (W.heap.size+1)≠(.slice x.ats x.b.ts.length x.ct:Value).ownBlock:=fun e=>by
  have:=(World.ownsRow.lt (zu RW).o.ot _ e.symm).2
  omega
 have K0:u.cell? ⟨B,0,none⟩=some (.pointer (some ⟨D,0,none⟩))∧u.cell? ⟨W.heap.size+1,0,none⟩=some (.int .i64 r0)∧u.cell? ⟨W.heap.size+1,1,none⟩=some (.int .i64 r1)∧u.cell? ⟨W.heap.size+1,2,none⟩=some (.int .i64 r2)∧u.cell? ⟨W.heap.size+1,3,none⟩=some (.int .i64 r3)∧u.cell? ⟨W.heap.size+1,4,none⟩=some (.int .i64 r4)∧u.cell? ⟨W.heap.size+1,5,none⟩=some (.int .i64 r5)∧u.cell? ⟨W.heap.size+1,6,none⟩=some (.int .i64 r6)∧u.cell? ⟨W.heap.size+1,7,none⟩=some (.int .i64 r7):=⟨eB,e0,e1,e2,e3,e4,e5,e6,e7⟩
 have KB:(u.drew.alloc (.cells #[.int .i64 r0,.int .i64 r1,.int .i64 r2,.int .i64 r3,.int .i64 r4,.int .i64 r5,.int .i64 r6,.int .i64 r7] 82)).cell? ⟨B,0,none⟩=some (.pointer (some ⟨D,0,none⟩))∧(u.drew.alloc (.cells #[.int .i64 r0,.int .i64 r1,.int .i64 r2,.int .i64 r3,.int .i64 r4,.int .i64 r5,.int .i64 r6,.int .i64 r7] 82)).cell? ⟨W.heap.size+1,0,none⟩=some (.int .i64 r0)∧(u.drew.alloc (.cells #[.int .i64 r0,.int .i64 r1,.int .i64 r2,.int .i64 r3,.int .i64 r4,.int .i64 r5,.int .i64 r6,.int .i64 r7] 82)).cell? ⟨W.heap.size+1,1,none⟩=some (.int .i64 r1)∧(u.drew.alloc (.cells #[.int .i64 r0,.int .i64 r1,.int .i64 r2,.int .i64 r3,.int .i64 r4,.int .i64 r5,.int .i64 r6,.int .i64 r7] 82)).cell? ⟨W.heap.size+1,2,none⟩=some (.int .i64 r2)∧(u.drew.alloc (.cells #[.int .i64 r0,.int .i64 r1,.int .i64 r2,.int .i64 r3,.int .i64 r4,.int .i64 r5,.int .i64 r6,.int .i64 r7] 82)).cell? ⟨W.heap.size+1,3,none⟩=some (.int .i64 r3)∧(u.drew.alloc (.cells #[.int .i64 r0,.int .i64 r1,.int .i64 r2,.int .i64 r3,.int .i64 r4,.int .i64 r5,.int .i64 r6,.int .i64 r7] 82)).cell? ⟨W.heap.size+1,4,none⟩=some (.int .i64 r4)∧(u.drew.alloc (.cells #[.int .i64 r0,.int .i64 r1,.int .i64 r2,.int .i64 r3,.int .i64 r4,.int .i64 r5,.int .i64 r6,.int .i64 r7] 82)).cell? ⟨W.heap.size+1,5,none⟩=some (.int .i64 r5)∧(u.drew.alloc (.cells #[.int .i64 r0,.int .i64 r1,.int .i64 r2,.int .i64 r3,.int .i64 r4,.int .i64 r5,.int .i64 r6,.int .i64 r7] 82)).cell? ⟨W.heap.size+1,6,none⟩=some (.int .i64 r6)∧(u.drew.alloc (.cells #[.int .i64 r0,.int .i64 r1,.int .i64 r2,.int .i64 r3,.int .i64 r4,.int .i64 r5,.int .i64 r6,.int .i64 r7] 82)).cell? ⟨W.heap.size+1,7,none⟩=some (.int .i64 r7):=⟨((one_more u.drew (.cells #[.int .i64 r0,.int .i64 r1,.int .i64 r2,.int .i64 r3,.int .i64 r4,.int .i64 r5,.int .i64 r6,.int .i64 r7] 82)).cell (p:=⟨B,0,none⟩) rl).trans eB,((one_more u.drew (.cells #[.int .i64 r0,.int .i64 r1,.int .i64 r2,.int .i64 r3,.int .i64 r4,.int .i64 r5,.int .i64 r6,.int .i64 r7] 82)).cell (p:=⟨W.heap.size+1,0,none⟩) dl.2).trans e0,((one_more u.drew (.cells #[.int .i64 r0,.int .i64 r1,.int .i64 r2,.int .i64 r3,.int .i64 r4,.int .i64 r5,.int .i64 r6,.int .i64 r7] 82)).cell (p:=⟨W.heap.size+1,1,none⟩) dl.2).trans e1,((one_more u.drew (.cells #[.int .i64 r0,.int .i64 r1,.int .i64 r2,.int .i64 r3,.int .i64 r4,.int .i64 r5,.int .i64 r6,.int .i64 r7] 82)).cell (p:=⟨W.heap.size+1,2,none⟩) dl.2).trans e2,((one_more u.drew (.cells #[.int .i64 r0,.int .i64 r1,.int .i64 r2,.int .i64 r3,.int .i64 r4,.int .i64 r5,.int .i64 r6,.int .i64 r7] 82)).cell (p:=⟨W.heap.size+1,3,none⟩) dl.2).trans e3,((one_more u.drew (.cells #[.int .i64 r0,.int .i64 r1,.int .i64 r2,.int .i64 r3,.int .i64 r4,.int .i64 r5,.int .i64 r6,.int .i64 r7] 82)).cell (p:=⟨W.heap.size+1,4,none⟩) dl.2).trans e4,((one_more u.drew (.cells #[.int .i64 r0,.int .i64 r1,.int .i64 r2,.int .i64 r3,.int .i64 r4,.int .i64 r5,.int .i64 r6,.int .i64 r7] 82)).cell (p:=⟨W.heap.size+1,5,none⟩) dl.2).trans e5,((one_more u.drew (.cells #[.int .i64 r0,.int .i64 r1,.int .i64 r2,.int .i64 r3,.int .i64 r4,.int .i64 r5,.int .i64 r6,.int .i64 r7] 82)).cell (p:=⟨W.heap.size+1,6,none⟩) dl.2).trans e6,((one_more u.drew (.cells #[.int .i64 r0,.int .i64 r1,.int .i64 r2,.int .i64 r3,.int .i64 r4,.int .i64 r5,.int .i64 r6,.int .i64 r7] 82)).cell (p:=⟨W.heap.size+1,7,none⟩) dl.2).trans e7⟩
 have bcD:u.drew.cell? ⟨D,4,none⟩=some (.slice x.ats x.b.ts.length x.ct):=bc
 have bcA:(u.alloc (.cells #[.int .i64 r0,.int .i64 r1,.int .i64 r2,.int .i64 r3,.int .i64 r4,.int .i64 r5,.int .i64 r6,.int .i64 r7] 82)).cell? ⟨D,4,none⟩=some (.slice x.ats x.b.ts.length x.ct):=((one_more u.drew (.cells #[.int .i64 r0,.int .i64 r1,.int .i64 r2,.int .i64 r3,.int .i64 r4,.int .i64 r5,.int .i64 r6,.int .i64 r7] 82)).cell (p:=⟨D,4,none⟩) dD).trans bc
 refine wp_region_held_drew (S:=(fun w'=>w'.cell? ⟨B,0,none⟩=some (.pointer (some ⟨D,0,none⟩))∧w'.cell? ⟨W.heap.size+1,0,none⟩=some (.int .i64 r0)∧w'.cell? ⟨W.heap.size+1,1,none⟩=some (.int .i64 r1)∧w'.cell? ⟨W.heap.size+1,2,none⟩=some (.int .i64 r2)∧w'.cell? ⟨W.heap.size+1,3,none⟩=some (.int .i64 r3)∧w'.cell? ⟨W.heap.size+1,4,none⟩=some (.int .i64 r4)∧w'.cell? ⟨W.heap.size+1,5,none⟩=some (.int .i64 r5)∧w'.cell? ⟨W.heap.size+1,6,none⟩=some (.int .i64 r6)∧w'.cell? ⟨W.heap.size+1,7,none⟩=some (.int .i64 r7))) (by kernel_rfl) K0 (fun hHeld=>?_)
 refine tk 0 oC40 (.pointer (some ⟨D,0,none⟩)) rfl (by kernel_rfl) (fun _ _ _ h=>h) (by rfl) (fun w hSw=>?_) hHeld ?_
 ·(try dsimp only at hSw)
  unfold oC40
  go_simp
 try simp only[oC40,Act.put,zA,zB,zC]
 refine tk 1 oC41 (.pointer (some ⟨D,0,none⟩)) rfl (by kernel_rfl) (fun _ _ _ h=>h) (by rfl) (fun w hSw=>?_) hHeld ?_
 ·(try dsimp only at hSw)
  unfold oC41
  go_simp
 try simp only[oC41,Act.put,zA,zB,zC]
 refine tk 2 oC42 (.pointer (some ⟨D,0,none⟩)) rfl (by kernel_rfl) (fun _ _ _ h=>h) (by rfl) (fun w hSw=>?_) hHeld ?_
 ·(try dsimp only at hSw)
  unfold oC42
  go_simp
 try simp only[oC42,Act.put,zA,zB,zC]
 refine tk 3 oC43 (.pointer (some ⟨D,4,none⟩)) rfl (by kernel_rfl) (fun _ _ _ h=>h) (by rfl) (fun w hSw=>?_) hHeld ?_
 ·(try dsimp only at hSw)
  unfold oC43
  go_simp
 try simp only[oC43,Act.put,zA,zB,zC]
 refine tk 5 oC45 (.agg #[.int .i64 r0,.int .i64 r1,.int .i64 r2,.int .i64 r3,.int .i64 r4,.int .i64 r5,.int .i64 r6,.int .i64 r7]) rfl (by kernel_rfl) (fun _ _ _ h=>h) (by rfl) (fun w hSw=>?_) hHeld ?_
 ·(try dsimp only at hSw)
  unfold oC45
  go_simp
 try simp only[oC45,Act.put,zA,zB,zC]
 refine wpAnyH_ready (rs:=[4,6]) (by kernel_rfl) (by simp) ?_
 refine AllReadyH.cons (o:=oC44) rfl (fun K hK=>?_) (AllReadyH.cons (o:=oC46) rfl (fun K hK=>?_) AllReadyH.nil)
 ·unfold oC44
  go_simp
  refine hK.out _ _ K0 (fun hHeld=>?_)
  clear hK K
  try simp only[oC44,Act.put,zA,zB,zC]
  refine wpAnyH_ready (rs:=[6]) (by kernel_rfl) (by simp) ?_
  refine AllReadyH.cons (o:=oC46) rfl (fun K hK=>?_) AllReadyH.nil
  unfold oC46
  go_simp
  refine hK.out _ _ KB (fun hHeld=>?_)
  clear hK K
  try simp only[oC46,Act.put,zA,zB,zC]
  refine wpAnyH_ready (rs:=[7]) (by kernel_rfl) (by simp) ?_
  refine AllReadyH.cons (o:=oC47) rfl (fun K hK=>?_) AllReadyH.nil
  refine step_app (u.drew.alloc (.cells #[.int .i64 r0,.int .i64 r1,.int .i64 r2,.int .i64 r3,.int .i64 r4,.int .i64 r5,.int .i64 r6,.int .i64 r7] 82)) (by rfl) _ _ 30 82 (by rfl) (.agg #[.int .i64 0,.int .i64 0,.int .i64 0,.int .i64 0,.int .i64 0,.int .i64 0,.int .i64 0,.int .i64 0]) 8 64 Tryz.underlying30 info_ts rfl (by decide) (by decide) N (.slice x.ats x.b.ts.length x.ct) x.b.ts.length (Tup8.flat8 x.b.ts) u.drew.heap.size [.int .i64 r0,.int .i64 r1,.int .i64 r2,.int .i64 r3,.int .i64 r4,.int .i64 r5,.int .i64 r6,.int .i64 r7] (by rfl) (by rfl) (row_step (W:=u.drew) ro (one_more u.drew (.cells #[.int .i64 r0,.int .i64 r1,.int .i64 r2,.int .i64 r3,.int .i64 r4,.int .i64 r5,.int .i64 r6,.int .i64 r7] 82))) rfl (litm u.drew _ _ _ (by rfl)) (by simp[Value.oneCell']) (by omega) (Nat.le_trans (show N≤u.drew.heap.size from rn) (by simp)) ?_
  intro g9 c9 u9 o9 gr9
  have BL:∀j,(.slice x.ats x.b.ts.length x.ct:Value).ownBlock=some j→N≤j:=fun j hj=>(World.ownsRow.lt ro j hj).1
  have BM:∀j,(.slice x.ats x.b.ts.length x.ct:Value).ownBlock=some j→j<u.heap.size:=fun j hj=>(World.ownsRow.lt ro j hj).2
  have NE:=NW
  have RA:=zh ((show Rs w0 u.drew p D B N s' x from rs_drew (zu RX)).step (one_more u.drew (.cells #[.int .i64 r0,.int .i64 r1,.int .i64 r2,.int .i64 r3,.int .i64 r4,.int .i64 r5,.int .i64 r6,.int .i64 r7] 82)))
  have R9:=zh (show Pl u9 w0.heap.size p s'∧Box u9 w0.heap.size D (.slice x.aa x.b.ac.length x.ca) (.slice x.ai x.b.ic.length x.ci) (.slice x.ab x.b.bs.length x.cb) (.slice x.al x.b.ls.length x.cl) (.slice x.ats x.b.ts.length x.ct) (.int .i64 x.b.lot) from⟨Ints.Own.kept (zu RA).pl gr9 (fun e=>by have:=BL _ e.symm;omega),(zu RA).bx.kept gr9 (fun e=>by have:=BL _ e.symm;omega)⟩)
  have O9:=zh o9
  have OO:=zh (show u9.ownsRow N 75 2 (.slice x.aa x.b.ac.length x.ca) x.b.ac.length (Pairs.flat x.b.ac)∧u9.ownsRow N 76 2 (.slice x.ai x.b.ic.length x.ci) x.b.ic.length (Pairs.flat x.b.ic)∧u9.ownsRow N 78 3 (.slice x.ab x.b.bs.length x.cb) x.b.bs.length (Triples.flat3 x.b.bs)∧u9.ownsRow N 80 5 (.slice x.al x.b.ls.length x.cl) x.b.ls.length (Tup5.flat5 x.b.ls) from⟨World.ownsRow.kept (zu RA).o.oa gr9 (row_ne (zu RA).o.oa (zu RA).o.ot (by decide)),World.ownsRow.kept (zu RA).o.oi gr9 (row_ne (zu RA).o.oi (zu RA).o.ot (by decide)),World.ownsRow.kept (zu RA).o.ob gr9 (row_ne (zu RA).o.ob (zu RA).o.ot (by decide)),World.ownsRow.kept (zu RA).o.ol gr9 (row_ne (zu RA).o.ol (zu RA).o.ot (by decide))⟩)
  have RR:=zh (show u9.heap[B]?=some (.cells #[.pointer (some ⟨D,0,none⟩)] 124 (0,0))∧Below w0.heap.size w0 u9∧N≤u9.heap.size from⟨(gr9.block B (by have:=(zu RA).ltB;exact this) (fun e=>by have:=BL _ e.symm;omega)).trans (zu RA).q,(zu RA).b.grown gr9 (zu RA).b.size (fun j hj=>by have:=BL _ hj;omega),Nat.le_trans (zu RA).n gr9.size⟩)
  have KA:=zh (show Kp W u9 from((zu KX).trans (Kp.drew (Kp.below (one_more u.drew (.cells #[.int .i64 r0,.int .i64 r1,.int .i64 r2,.int .i64 r3,.int .i64 r4,.int .i64 r5,.int .i64 r6,.int .i64 r7] 82))))).trans (Kp.grown gr9 (fun j hj=>by obtain⟨c,hc⟩:=row_typ (zu RA).o.ot j hj;exact⟨_,hc,rfl⟩)))
  have fr9:u9.frozen? ⟨D,4,none⟩=false:=(zu R9).2.free 4
  have bc9:=(zu R9).2.c4
  have SB:=zh ((zu R9).2.set4 (.slice (some ⟨g9,0,none⟩) (x.b.ts.length+1) c9))
  have KC:u9.cell? ⟨B,0,none⟩=some (.pointer (some ⟨D,0,none⟩))∧u9.cell? ⟨W.heap.size+1,0,none⟩=some (.int .i64 r0)∧u9.cell? ⟨W.heap.size+1,1,none⟩=some (.int .i64 r1)∧u9.cell? ⟨W.heap.size+1,2,none⟩=some (.int .i64 r2)∧u9.cell? ⟨W.heap.size+1,3,none⟩=some (.int .i64 r3)∧u9.cell? ⟨W.heap.size+1,4,none⟩=some (.int .i64 r4)∧u9.cell? ⟨W.heap.size+1,5,none⟩=some (.int .i64 r5)∧u9.cell? ⟨W.heap.size+1,6,none⟩=some (.int .i64 r6)∧u9.cell? ⟨W.heap.size+1,7,none⟩=some (.int .i64 r7):=⟨gr9.cell KB.1 (fun e=>by have:=BL _ e.symm;simp only at this;omega),gr9.cell KB.2.1 (fun e=>by exact NE e),gr9.cell KB.2.2.1 (fun e=>by exact NE e),gr9.cell KB.2.2.2.1 (fun e=>by exact NE e),gr9.cell KB.2.2.2.2.1 (fun e=>by exact NE e),gr9.cell KB.2.2.2.2.2.1 (fun e=>by exact NE e),gr9.cell KB.2.2.2.2.2.2.1 (fun e=>by exact NE e),gr9.cell KB.2.2.2.2.2.2.2.1 (fun e=>by exact NE e),gr9.cell KB.2.2.2.2.2.2.2.2 (fun e=>by exact NE e)⟩
  have KD:(u9.setCell ⟨D,4,none⟩ (.slice (some ⟨g9,0,none⟩) (x.b.ts.length+1) c9)).cell? ⟨B,0,none⟩=some (.pointer (some ⟨D,0,none⟩))∧(u9.setCell ⟨D,4,none⟩ (.slice (some ⟨g9,0,none⟩) (x.b.ts.length+1) c9)).cell? ⟨W.heap.size+1,0,none⟩=some (.int .i64 r0)∧(u9.setCell ⟨D,4,none⟩ (.slice (some ⟨g9,0,none⟩) (x.b.ts.length+1) c9)).cell? ⟨W.heap.size+1,1,none⟩=some (.int .i64 r1)∧(u9.setCell ⟨D,4,none⟩ (.slice (some ⟨g9,0,none⟩) (x.b.ts.length+1) c9)).cell? ⟨W.heap.size+1,2,none⟩=some (.int .i64 r2)∧(u9.setCell ⟨D,4,none⟩ (.slice (some ⟨g9,0,none⟩) (x.b.ts.length+1) c9)).cell? ⟨W.heap.size+1,3,none⟩=some (.int .i64 r3)∧(u9.setCell ⟨D,4,none⟩ (.slice (some ⟨g9,0,none⟩) (x.b.ts.length+1) c9)).cell? ⟨W.heap.size+1,4,none⟩=some (.int .i64 r4)∧(u9.setCell ⟨D,4,none⟩ (.slice (some ⟨g9,0,none⟩) (x.b.ts.length+1) c9)).cell? ⟨W.heap.size+1,5,none⟩=some (.int .i64 r5)∧(u9.setCell ⟨D,4,none⟩ (.slice (some ⟨g9,0,none⟩) (x.b.ts.length+1) c9)).cell? ⟨W.heap.size+1,6,none⟩=some (.int .i64 r6)∧(u9.setCell ⟨D,4,none⟩ (.slice (some ⟨g9,0,none⟩) (x.b.ts.length+1) c9)).cell? ⟨W.heap.size+1,7,none⟩=some (.int .i64 r7):=⟨(cell_grown (zu SB).2 0 (g:=B) (by have:=(zu RA).ltB;have:=gr9.size;omega) (fun e=>dq e.symm)).trans KC.1,(cell_grown (zu SB).2 0 (g:=W.heap.size+1) (by have:=gr9.size;simp at this;omega) (by omega)).trans KC.2.1,(cell_grown (zu SB).2 1 (g:=W.heap.size+1) (by have:=gr9.size;simp at this;omega) (by omega)).trans KC.2.2.1,(cell_grown (zu SB).2 2 (g:=W.heap.size+1) (by have:=gr9.size;simp at this;omega) (by omega)).trans KC.2.2.2.1,(cell_grown (zu SB).2 3 (g:=W.heap.size+1) (by have:=gr9.size;simp at this;omega) (by omega)).trans KC.2.2.2.2.1,(cell_grown (zu SB).2 4 (g:=W.heap.size+1) (by have:=gr9.size;simp at this;omega) (by omega)).trans KC.2.2.2.2.2.1,(cell_grown (zu SB).2 5 (g:=W.heap.size+1) (by have:=gr9.size;simp at this;omega) (by omega)).trans KC.2.2.2.2.2.2.1,(cell_grown (zu SB).2 6 (g:=W.heap.size+1) (by have:=gr9.size;simp at this;omega) (by omega)).trans KC.2.2.2.2.2.2.2.1,(cell_grown (zu SB).2 7 (g:=W.heap.size+1) (by have:=gr9.size;simp at this;omega) (by omega)).trans KC.2.2.2.2.2.2.2.2⟩
  clear o9
  refine hK.out _ _ KC (fun hHeld=>?_)
  clear hK K
  try simp only[oC47,Act.put,zA,zB,zC]
  refine tk 8 oC48 (.pointer (some ⟨D,0,none⟩)) rfl (by kernel_rfl) (fun _ _ _ h=>h) (by rfl) (fun w hSw=>?_) hHeld ?_
  ·(try dsimp only at hSw)
   unfold oC48
   go_simp
  try simp only[oC48,Act.put,zA,zB,zC]
  refine tk 9 oC49 (.pointer (some ⟨D,4,none⟩)) rfl (by kernel_rfl) (fun _ _ _ h=>h) (by rfl) (fun w hSw=>?_) hHeld ?_
  ·(try dsimp only at hSw)
   unfold oC49
   go_simp
  try simp only[oC49,Act.put,zA,zB,zC]
  refine wpAnyH_ready (rs:=[10]) (by kernel_rfl) (by simp) ?_
  refine AllReadyH.cons (o:=oC410) rfl (fun K hK=>?_) AllReadyH.nil
  unfold oC410
  go_simp
  refine hK.out _ _ KD (fun hHeld=>?_)
  clear hK K
  try simp only[oC410,Act.put,zA,zB,zC]
  refine wpAnyH_done (by kernel_rfl) ?_ _
  clear K0 KB KC KD bc bcD bcA bc9 fr9 eB e0 e1 e2 e3 e4 e5 e6 e7
  go_wp2
  go_end0
  obtain⟨sb,sg⟩:=zu SB
  obtain⟨h0,h1,h2,h3⟩:=zu OO
  obtain⟨q9,b9,n9⟩:=zu RR
  have ln:(x.b.ts++[r8 [r0,r1,r2,r3,r4,r5,r6,r7]]).length=x.b.ts.length+1:=by simp
  refine .inr ⟨rfl,rfl,(zu KA).trans (Kp.grown sg (fun j hj=>by injection hj with hj;subst hj;obtain⟨c,hc⟩:=row_typ (zu R9).2 _ rfl;exact⟨_,hc,rfl⟩)),(⟨x.aa,x.ca,x.ai,x.ci,x.ab,x.cb,x.al,x.cl,some ⟨g9,0,none⟩,c9,⟨x.b.ac,x.b.ic,x.b.bs,x.b.ls,x.b.ts++[r8 [r0,r1,r2,r3,r4,r5,r6,r7]],x.b.lot⟩⟩:Ix),rfl,⟨Ints.Own.kept (zu R9).1 sg (by simpa using pd),?_,⟨row_kept h0 sg d1,row_kept h1 sg d1,row_kept h2 sg d1,row_kept h3 sg d1,?_⟩,(sg.block B (by have:=Array.getElem?_eq_some_iff.1 q9;exact this.1) (fun e=>dq (by injection e with e;exact e.symm))).trans q9,b9.grown sg b9.size (fun j hj=>by injection hj with hj;omega),Nat.le_trans n9 sg.size⟩⟩
  ·show Box _ _ _ (.slice x.aa x.b.ac.length x.ca) (.slice x.ai x.b.ic.length x.ci) (.slice x.ab x.b.bs.length x.cb) (.slice x.al x.b.ls.length x.cl) (.slice (some ⟨g9,0,none⟩) (x.b.ts++[r8 [r0,r1,r2,r3,r4,r5,r6,r7]]).length c9) (.int .i64 x.b.lot)
   rw[ln]
   exact sb
  ·show World.ownsRow _ _ _ _ _ _ _
   have o:=row_kept (zu O9) sg d1
   simp only[ln]
   rw[show Tup8.flat8 (x.b.ts++[r8 [r0,r1,r2,r3,r4,r5,r6,r7]])=Tup8.flat8 x.b.ts++[.int .i64 r0,.int .i64 r1,.int .i64 r2,.int .i64 r3,.int .i64 r4,.int .i64 r5,.int .i64 r6,.int .i64 r7] from flat_e _ _ _ _ _ _ _ _ _]
   exact o
 ·unfold oC46
  go_simp
  refine hK.out _ _ KB (fun hHeld=>?_)
  clear hK K
  try simp only[oC46,Act.put,zA,zB,zC]
  refine wpAnyH_ready (rs:=[4]) (by kernel_rfl) (by simp) ?_
  refine AllReadyH.cons (o:=oC44) rfl (fun K hK=>?_) AllReadyH.nil
  unfold oC44
  go_simp
  refine hK.out _ _ KB (fun hHeld=>?_)
  clear hK K
  try simp only[oC44,Act.put,zA,zB,zC]
  refine wpAnyH_ready (rs:=[7]) (by kernel_rfl) (by simp) ?_
  refine AllReadyH.cons (o:=oC47) rfl (fun K hK=>?_) AllReadyH.nil
  refine step_app (u.drew.alloc (.cells #[.int .i64 r0,.int .i64 r1,.int .i64 r2,.int .i64 r3,.int .i64 r4,.int .i64 r5,.int .i64 r6,.int .i64 r7] 82)) (by rfl) _ _ 30 82 (by rfl) (.agg #[.int .i64 0,.int .i64 0,.int .i64 0,.int .i64 0,.int .i64 0,.int .i64 0,.int .i64 0,.int .i64 0]) 8 64 Tryz.underlying30 info_ts rfl (by decide) (by decide) N (.slice x.ats x.b.ts.length x.ct) x.b.ts.length (Tup8.flat8 x.b.ts) u.drew.heap.size [.int .i64 r0,.int .i64 r1,.int .i64 r2,.int .i64 r3,.int .i64 r4,.int .i64 r5,.int .i64 r6,.int .i64 r7] (by rfl) (by rfl) (row_step (W:=u.drew) ro (one_more u.drew (.cells #[.int .i64 r0,.int .i64 r1,.int .i64 r2,.int .i64 r3,.int .i64 r4,.int .i64 r5,.int .i64 r6,.int .i64 r7] 82))) rfl (litm u.drew _ _ _ (by rfl)) (by simp[Value.oneCell']) (by omega) (Nat.le_trans (show N≤u.drew.heap.size from rn) (by simp)) ?_
  intro g9 c9 u9 o9 gr9
  have BL:∀j,(.slice x.ats x.b.ts.length x.ct:Value).ownBlock=some j→N≤j:=fun j hj=>(World.ownsRow.lt ro j hj).1
  have BM:∀j,(.slice x.ats x.b.ts.length x.ct:Value).ownBlock=some j→j<u.heap.size:=fun j hj=>(World.ownsRow.lt ro j hj).2
  have NE:=NW
  have RA:=zh ((show Rs w0 u.drew p D B N s' x from rs_drew (zu RX)).step (one_more u.drew (.cells #[.int .i64 r0,.int .i64 r1,.int .i64 r2,.int .i64 r3,.int .i64 r4,.int .i64 r5,.int .i64 r6,.int .i64 r7] 82)))
  have R9:=zh (show Pl u9 w0.heap.size p s'∧Box u9 w0.heap.size D (.slice x.aa x.b.ac.length x.ca) (.slice x.ai x.b.ic.length x.ci) (.slice x.ab x.b.bs.length x.cb) (.slice x.al x.b.ls.length x.cl) (.slice x.ats x.b.ts.length x.ct) (.int .i64 x.b.lot) from⟨Ints.Own.kept (zu RA).pl gr9 (fun e=>by have:=BL _ e.symm;omega),(zu RA).bx.kept gr9 (fun e=>by have:=BL _ e.symm;omega)⟩)
  have O9:=zh o9
  have OO:=zh (show u9.ownsRow N 75 2 (.slice x.aa x.b.ac.length x.ca) x.b.ac.length (Pairs.flat x.b.ac)∧u9.ownsRow N 76 2 (.slice x.ai x.b.ic.length x.ci) x.b.ic.length (Pairs.flat x.b.ic)∧u9.ownsRow N 78 3 (.slice x.ab x.b.bs.length x.cb) x.b.bs.length (Triples.flat3 x.b.bs)∧u9.ownsRow N 80 5 (.slice x.al x.b.ls.length x.cl) x.b.ls.length (Tup5.flat5 x.b.ls) from⟨World.ownsRow.kept (zu RA).o.oa gr9 (row_ne (zu RA).o.oa (zu RA).o.ot (by decide)),World.ownsRow.kept (zu RA).o.oi gr9 (row_ne (zu RA).o.oi (zu RA).o.ot (by decide)),World.ownsRow.kept (zu RA).o.ob gr9 (row_ne (zu RA).o.ob (zu RA).o.ot (by decide)),World.ownsRow.kept (zu RA).o.ol gr9 (row_ne (zu RA).o.ol (zu RA).o.ot (by decide))⟩)
  have RR:=zh (show u9.heap[B]?=some (.cells #[.pointer (some ⟨D,0,none⟩)] 124 (0,0))∧Below w0.heap.size w0 u9∧N≤u9.heap.size from⟨(gr9.block B (by have:=(zu RA).ltB;exact this) (fun e=>by have:=BL _ e.symm;omega)).trans (zu RA).q,(zu RA).b.grown gr9 (zu RA).b.size (fun j hj=>by have:=BL _ hj;omega),Nat.le_trans (zu RA).n gr9.size⟩)
  have KA:=zh (show Kp W u9 from((zu KX).trans (Kp.drew (Kp.below (one_more u.drew (.cells #[.int .i64 r0,.int .i64 r1,.int .i64 r2,.int .i64 r3,.int .i64 r4,.int .i64 r5,.int .i64 r6,.int .i64 r7] 82))))).trans (Kp.grown gr9 (fun j hj=>by obtain⟨c,hc⟩:=row_typ (zu RA).o.ot j hj;exact⟨_,hc,rfl⟩)))
  have fr9:u9.frozen? ⟨D,4,none⟩=false:=(zu R9).2.free 4
  have bc9:=(zu R9).2.c4
  have SB:=zh ((zu R9).2.set4 (.slice (some ⟨g9,0,none⟩) (x.b.ts.length+1) c9))
  have KC:u9.cell? ⟨B,0,none⟩=some (.pointer (some ⟨D,0,none⟩))∧u9.cell? ⟨W.heap.size+1,0,none⟩=some (.int .i64 r0)∧u9.cell? ⟨W.heap.size+1,1,none⟩=some (.int .i64 r1)∧u9.cell? ⟨W.heap.size+1,2,none⟩=some (.int .i64 r2)∧u9.cell? ⟨W.heap.size+1,3,none⟩=some (.int .i64 r3)∧u9.cell? ⟨W.heap.size+1,4,none⟩=some (.int .i64 r4)∧u9.cell? ⟨W.heap.size+1,5,none⟩=some (.int .i64 r5)∧u9.cell? ⟨W.heap.size+1,6,none⟩=some (.int .i64 r6)∧u9.cell? ⟨W.heap.size+1,7,none⟩=some (.int .i64 r7):=⟨gr9.cell KB.1 (fun e=>by have:=BL _ e.symm;simp only at this;omega),gr9.cell KB.2.1 (fun e=>by exact NE e),gr9.cell KB.2.2.1 (fun e=>by exact NE e),gr9.cell KB.2.2.2.1 (fun e=>by exact NE e),gr9.cell KB.2.2.2.2.1 (fun e=>by exact NE e),gr9.cell KB.2.2.2.2.2.1 (fun e=>by exact NE e),gr9.cell KB.2.2.2.2.2.2.1 (fun e=>by exact NE e),gr9.cell KB.2.2.2.2.2.2.2.1 (fun e=>by exact NE e),gr9.cell KB.2.2.2.2.2.2.2.2 (fun e=>by exact NE e)⟩
  have KD:(u9.setCell ⟨D,4,none⟩ (.slice (some ⟨g9,0,none⟩) (x.b.ts.length+1) c9)).cell? ⟨B,0,none⟩=some (.pointer (some ⟨D,0,none⟩))∧(u9.setCell ⟨D,4,none⟩ (.slice (some ⟨g9,0,none⟩) (x.b.ts.length+1) c9)).cell? ⟨W.heap.size+1,0,none⟩=some (.int .i64 r0)∧(u9.setCell ⟨D,4,none⟩ (.slice (some ⟨g9,0,none⟩) (x.b.ts.length+1) c9)).cell? ⟨W.heap.size+1,1,none⟩=some (.int .i64 r1)∧(u9.setCell ⟨D,4,none⟩ (.slice (some ⟨g9,0,none⟩) (x.b.ts.length+1) c9)).cell? ⟨W.heap.size+1,2,none⟩=some (.int .i64 r2)∧(u9.setCell ⟨D,4,none⟩ (.slice (some ⟨g9,0,none⟩) (x.b.ts.length+1) c9)).cell? ⟨W.heap.size+1,3,none⟩=some (.int .i64 r3)∧(u9.setCell ⟨D,4,none⟩ (.slice (some ⟨g9,0,none⟩) (x.b.ts.length+1) c9)).cell? ⟨W.heap.size+1,4,none⟩=some (.int .i64 r4)∧(u9.setCell ⟨D,4,none⟩ (.slice (some ⟨g9,0,none⟩) (x.b.ts.length+1) c9)).cell? ⟨W.heap.size+1,5,none⟩=some (.int .i64 r5)∧(u9.setCell ⟨D,4,none⟩ (.slice (some ⟨g9,0,none⟩) (x.b.ts.length+1) c9)).cell? ⟨W.heap.size+1,6,none⟩=some (.int .i64 r6)∧(u9.setCell ⟨D,4,none⟩ (.slice (some ⟨g9,0,none⟩) (x.b.ts.length+1) c9)).cell? ⟨W.heap.size+1,7,none⟩=some (.int .i64 r7):=⟨(cell_grown (zu SB).2 0 (g:=B) (by have:=(zu RA).ltB;have:=gr9.size;omega) (fun e=>dq e.symm)).trans KC.1,(cell_grown (zu SB).2 0 (g:=W.heap.size+1) (by have:=gr9.size;simp at this;omega) (by omega)).trans KC.2.1,(cell_grown (zu SB).2 1 (g:=W.heap.size+1) (by have:=gr9.size;simp at this;omega) (by omega)).trans KC.2.2.1,(cell_grown (zu SB).2 2 (g:=W.heap.size+1) (by have:=gr9.size;simp at this;omega) (by omega)).trans KC.2.2.2.1,(cell_grown (zu SB).2 3 (g:=W.heap.size+1) (by have:=gr9.size;simp at this;omega) (by omega)).trans KC.2.2.2.2.1,(cell_grown (zu SB).2 4 (g:=W.heap.size+1) (by have:=gr9.size;simp at this;omega) (by omega)).trans KC.2.2.2.2.2.1,(cell_grown (zu SB).2 5 (g:=W.heap.size+1) (by have:=gr9.size;simp at this;omega) (by omega)).trans KC.2.2.2.2.2.2.1,(cell_grown (zu SB).2 6 (g:=W.heap.size+1) (by have:=gr9.size;simp at this;omega) (by omega)).trans KC.2.2.2.2.2.2.2.1,(cell_grown (zu SB).2 7 (g:=W.heap.size+1) (by have:=gr9.size;simp at this;omega) (by omega)).trans KC.2.2.2.2.2.2.2.2⟩
  clear o9
  refine hK.out _ _ KC (fun hHeld=>?_)
  clear hK K
  try simp only[oC47,Act.put,zA,zB,zC]
  refine tk 8 oC48 (.pointer (some ⟨D,0,none⟩)) rfl (by kernel_rfl) (fun _ _ _ h=>h) (by rfl) (fun w hSw=>?_) hHeld ?_
  ·(try dsimp only at hSw)
   unfold oC48
   go_simp
  try simp only[oC48,Act.put,zA,zB,zC]
  refine tk 9 oC49 (.pointer (some ⟨D,4,none⟩)) rfl (by kernel_rfl) (fun _ _ _ h=>h) (by rfl) (fun w hSw=>?_) hHeld ?_
  ·(try dsimp only at hSw)
   unfold oC49
   go_simp
  try simp only[oC49,Act.put,zA,zB,zC]
  refine wpAnyH_ready (rs:=[10]) (by kernel_rfl) (by simp) ?_
  refine AllReadyH.cons (o:=oC410) rfl (fun K hK=>?_) AllReadyH.nil
  unfold oC410
  go_simp
  refine hK.out _ _ KD (fun hHeld=>?_)
  clear hK K
  try simp only[oC410,Act.put,zA,zB,zC]
  refine wpAnyH_done (by kernel_rfl) ?_ _
  clear K0 KB KC KD bc bcD bcA bc9 fr9 eB e0 e1 e2 e3 e4 e5 e6 e7
  go_wp2
  go_end0
  obtain⟨sb,sg⟩:=zu SB
  obtain⟨h0,h1,h2,h3⟩:=zu OO
  obtain⟨q9,b9,n9⟩:=zu RR
  have ln:(x.b.ts++[r8 [r0,r1,r2,r3,r4,r5,r6,r7]]).length=x.b.ts.length+1:=by simp
  refine .inr ⟨rfl,rfl,(zu KA).trans (Kp.grown sg (fun j hj=>by injection hj with hj;subst hj;obtain⟨c,hc⟩:=row_typ (zu R9).2 _ rfl;exact⟨_,hc,rfl⟩)),(⟨x.aa,x.ca,x.ai,x.ci,x.ab,x.cb,x.al,x.cl,some ⟨g9,0,none⟩,c9,⟨x.b.ac,x.b.ic,x.b.bs,x.b.ls,x.b.ts++[r8 [r0,r1,r2,r3,r4,r5,r6,r7]],x.b.lot⟩⟩:Ix),rfl,⟨Ints.Own.kept (zu R9).1 sg (by simpa using pd),?_,⟨row_kept h0 sg d1,row_kept h1 sg d1,row_kept h2 sg d1,row_kept h3 sg d1,?_⟩,(sg.block B (by have:=Array.getElem?_eq_some_iff.1 q9;exact this.1) (fun e=>dq (by injection e with e;exact e.symm))).trans q9,b9.grown sg b9.size (fun j hj=>by injection hj with hj;omega),Nat.le_trans n9 sg.size⟩⟩
  ·show Box _ _ _ (.slice x.aa x.b.ac.length x.ca) (.slice x.ai x.b.ic.length x.ci) (.slice x.ab x.b.bs.length x.cb) (.slice x.al x.b.ls.length x.cl) (.slice (some ⟨g9,0,none⟩) (x.b.ts++[r8 [r0,r1,r2,r3,r4,r5,r6,r7]]).length c9) (.int .i64 x.b.lot)
   rw[ln]
   exact sb
  ·show World.ownsRow _ _ _ _ _ _ _
   have o:=row_kept (zu O9) sg d1
   simp only[ln]
   rw[show Tup8.flat8 (x.b.ts++[r8 [r0,r1,r2,r3,r4,r5,r6,r7]])=Tup8.flat8 x.b.ts++[.int .i64 r0,.int .i64 r1,.int .i64 r2,.int .i64 r3,.int .i64 r4,.int .i64 r5,.int .i64 r6,.int .i64 r7] from flat_e _ _ _ _ _ _ _ _ _]
   exact o
end ICl13
end Go.Proofs.YtagmnociflkhcaaGreatDoor
