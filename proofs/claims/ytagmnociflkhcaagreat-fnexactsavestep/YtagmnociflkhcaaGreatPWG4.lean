/- Texts of one proof, one behind the other: SPut14, SClear15, VOI, SClear16, SAppend14, SSync14, SMove14, Pure14, SDrop14, Ok14, TabF14, ITb14, Okk14, Law14, LenAppend14, LenSync14, LenMove14, IOk14, ICp14, IDk14, PTab14, ICom14, ISz14, IAppend14. -/
import Derived.Test.YtagmnociflkhcaaGreatRows
import Derived.Test.YtagmnociflkhcaaGreatPWG1
import Derived.Test.YtagmnociflkhcaaGreatPWG2
import Derived.Test.YtagmnociflkhcaaGreatPWG3
import Derived.Deep.RegionHeld3
import Derived.Maps.OwnSet
import Derived.Laws.CopyRow
set_option linter.unusedVariables false
set_option linter.unusedSimpArgs false
open Go.ChangeShapes Go.WideShapes Go.ChangeAt Go.RowKit
set_option maxRecDepth 100000
set_option maxHeartbeats 32000000
namespace Go.Proofs.YtagmnociflkhcaaGreat
namespace SPut14
open Fil14 OpensF14 DiskH14 DkH14 SDk14 SOk14 SRd14 App14 SLess14 SCopy14
open DkH14 (row_step)
def putN(ps:List TF)(f:TF):Nat→List TF×Bool
 |0=>([],false)
 |k+1=>
  let l:=if(putN ps f k).2=false∧f.1≤(elF ps k).1 then(putN ps f k).1++[f] else(putN ps f k).1
  (if(elF ps k).1=f.1 then l else l++[elF ps k],(putN ps f k).2||decide (f.1≤(elF ps k).1))
def putF(ps:List TF)(f:TF):List TF:=if(putN ps f ps.length).2=true then(putN ps f ps.length).1 else(putN ps f ps.length).1++[f]
structure Pt(B O:Nat)(W wr:World)(room:Int)(L:List TF)(a:Option Addr)(m c:Nat):Prop where
 gr:W.grownBy wr (some O)
 bx:Bc wr B O (.int .i64 room) (.slice a m c)
 ow:wr.ownsRow W.heap.size 120 3 (.slice a m c) m (flatF L)
theorem Pt.drew{B O:Nat}{W wr:World}{room:Int}{L:List TF}{a:Option Addr}{m c:Nat}(h:Pt B O W wr room L a m c):Pt B O W wr.drew room L a m c:=⟨⟨h.gr.os,h.gr.tape,h.gr.output,h.gr.size,h.gr.block⟩,h.bx,h.ow⟩
theorem Pt.off{B O:Nat}{W wr:World}{room:Int}{L:List TF}{a:Option Addr}{m c:Nat}(h:Pt B O W wr room L a m c):∀j,(Value.slice a m c).ownBlock=some j→W.heap.size≤j:=fun j hj=>(World.ownsRow.lt h.ow j hj).1
theorem Pt.app{B O:Nat}{W wr V u:World}{room:Int}{L:List TF}{a:Option Addr}{m c g9 c9:Nat}{p:TF}(h:Pt B O W wr room L a m c)(hO:O<W.heap.size)(b:Below wr.heap.size wr V)(g:V.grownBy u (Value.slice a m c).ownBlock)
  (o:u.ownsRow W.heap.size 120 3 (.slice (some ⟨g9,0,none⟩) (m+1) c9) (m+1) (flatF L++[.int .i64 p.1,.string p.2.1,.string p.2.2])):
  Bc u B O (.int .i64 room) (.slice a m c)∧Pt B O W (u.setCell ⟨O,1,none⟩ (.slice (some ⟨g9,0,none⟩) (m+1) c9)) room (L++[p]) (some ⟨g9,0,none⟩) (m+1) c9:=by
 have NG:some O≠(Value.slice a m c).ownBlock:=fun e=>by have:=h.off _ e.symm;omega
 have bx9:=(h.bx.below b (h.bx.lt).2).kept g NG
 have gu:W.grownBy u (some O):=⟨(g.os.trans b.os).trans h.gr.os,(g.tape.trans b.tape).trans h.gr.tape,(g.output.trans b.output).trans h.gr.output,Nat.le_trans h.gr.size (Nat.le_trans b.size g.size),fun i hi hr=>by
  have l:i<wr.heap.size:=Nat.lt_of_lt_of_le hi h.gr.size
  exact((g.block i (Nat.lt_of_lt_of_le l b.size) (fun e=>by have:=h.off i e.symm;omega)).trans (b.block i l)).trans (h.gr.block i hi hr)⟩
 have s:=bc_set1 bx9 (.slice (some ⟨g9,0,none⟩) (m+1) c9)
 refine⟨bx9,grow_grow gu s.2,s.1,?_⟩
 rw[flat_1]
 exact row_kept o s.2 hO
theorem wp_app(u:World){ops:Array Oper}{rest:List Oper}{o:Oper}{a:Act}{Q:Exit→Act→World→Prop}(hgd:o.guard=none)(s x:Operand)
  (ho:o.op= .call {callee:= .builtin .append,args:= #[s,x],argTypes:= #[50,50]})(base:Nat)(v:Value)(n:Nat)(xs:List Value)(vb:Nat)(news:List Value)(hs:a.eval s=v)(hx:a.eval x= .slice (some ⟨vb,0,none⟩) 1 1)(hown:u.ownsRow base 120 3 v n xs)(hl:news.length=3)(hc:∀j w,news[j]?=some w→u.cell? ⟨vb,j,none⟩=some w)(h1:∀w∈news,w.oneCell'=true)(hn:n≤1048576)(hb:base≤u.heap.size)
  (h:∀g' c' w',w'.ownsRow base 120 3 (.slice (some ⟨g',0,none⟩) (n+1) c') (n+1) (xs++news)→u.grownBy w' v.ownBlock→wpList Tryz.prog ops Q rest (a.put o.dst (.slice (some ⟨g',0,none⟩) (n+1) c')) w'):wpList Tryz.prog ops Q (o::rest) a u:=by
 obtain⟨i0,hi,hz0,hz1,hz2⟩:=info_parts HelpF14.info2
 refine wpList_append_own_at u hgd s x 50 ho base 120 i0 (.agg #[.int .i64 0,.string ByteArray.empty,.string ByteArray.empty]) 3 40 Tryz.underlying50 hi hz0 hz1 hz2 rfl (by decide) v n xs hs hown ⟨vb,0,none⟩ 1 1 news hx (by omega) (fun j w hj=>by rw[Addr.add_lit,Nat.zero_add];exact hc j w hj) h1 (by unfold maxLen;omega) (by omega) hb ?_
 intro v' w' own' gr' nil' loc'
 rcases own'.2 with⟨e1,_⟩|⟨g',c',cur,rfl,_⟩
 ·rw[e1] at nil';simp at nil'
 ·exact h g' c' w' own' gr'
abbrev oS0:Oper:={dst:=some 18,op:=Go.Op.move (Go.Operand.tmp 6),type:=4,pos:= "l14_disk.go:49",after:= #[],guard:=none}
abbrev oS1:Oper:={dst:=some 19,op:=Go.Op.unOp Go.UnOp.not 4 (Go.Operand.tmp 18),type:=4,pos:= "l14_disk.go:49",after:= #[{on:=0,ground:=Go.Ground.data}],guard:=none}
abbrev oS2:Oper:={dst:=some 20,op:=Go.Op.move (Go.Operand.tmp 19),type:=4,pos:= "l14_disk.go:49",after:= #[{on:=1,ground:=Go.Ground.data}],guard:=none}
abbrev oS3:Oper:={dst:=some 21,op:=Go.Op.fieldAddr 52 (Go.Operand.tmp 2) 1,type:=0,pos:= "l14_disk.go:49",after:= #[{on:=2,ground:=Go.Ground.guard}],guard:=some (2,true)}
abbrev oS4:Oper:={dst:=some 22,op:=Go.Op.load 50 (Go.Operand.tmp 21),type:=50,pos:= "l14_disk.go:49",after:= #[{on:=3,ground:=Go.Ground.data},{on:=2,ground:=Go.Ground.guard}],guard:=some (2,true)}
abbrev oS5:Oper:={dst:=some 23,op:=Go.Op.move (Go.Operand.tmp 7),type:=3,pos:= "l14_disk.go:49",after:= #[{on:=2,ground:=Go.Ground.guard}],guard:=some (2,true)}
abbrev oS6:Oper:={dst:=some 24,op:=Go.Op.indexAddr 50 (Go.Operand.tmp 22) (Go.Operand.tmp 23),type:=0,pos:= "l14_disk.go:49",after:= #[{on:=4,ground:=Go.Ground.data},{on:=5,ground:=Go.Ground.data},{on:=2,ground:=Go.Ground.guard}],guard:=some (2,true)}
abbrev oS7:Oper:={dst:=some 25,op:=Go.Op.fieldAddr 120 (Go.Operand.tmp 24) 0,type:=0,pos:= "l14_disk.go:49",after:= #[{on:=6,ground:=Go.Ground.data},{on:=2,ground:=Go.Ground.guard}],guard:=some (2,true)}
abbrev oS8:Oper:={dst:=some 26,op:=Go.Op.load 3 (Go.Operand.tmp 25),type:=3,pos:= "l14_disk.go:49",after:= #[{on:=7,ground:=Go.Ground.data},{on:=2,ground:=Go.Ground.guard}],guard:=some (2,true)}
abbrev oS9:Oper:={dst:=some 27,op:=Go.Op.fieldAddr 120 (Go.Operand.tmp 3) 0,type:=0,pos:= "l14_disk.go:49",after:= #[{on:=2,ground:=Go.Ground.guard}],guard:=some (2,true)}
abbrev oS10:Oper:={dst:=some 28,op:=Go.Op.load 3 (Go.Operand.tmp 27),type:=3,pos:= "l14_disk.go:49",after:= #[{on:=9,ground:=Go.Ground.data},{on:=2,ground:=Go.Ground.guard}],guard:=some (2,true)}
abbrev oS11:Oper:={dst:=some 29,op:=Go.Op.binOp Go.BinOp.geq 3 (Go.Operand.tmp 26) (Go.Operand.tmp 28) 3,type:=4,pos:= "l14_disk.go:49",after:= #[{on:=8,ground:=Go.Ground.data},{on:=10,ground:=Go.Ground.data},{on:=2,ground:=Go.Ground.guard}],guard:=some (2,true)}
abbrev oS12:Oper:={dst:=some 30,op:=Go.Op.pick (Go.Operand.tmp 20) (Go.Operand.tmp 29) (Go.Operand.const (Go.Value.bool false)),type:=4,pos:= "l14_disk.go:49",after:= #[{on:=2,ground:=Go.Ground.data},{on:=11,ground:=Go.Ground.data}],guard:=none}
abbrev oN0:Oper:={dst:=some 37,op:=Go.Op.fieldAddr 52 (Go.Operand.tmp 2) 1,type:=0,pos:= "l14_disk.go:53",after:= #[],guard:=none}
abbrev oN1:Oper:={dst:=some 38,op:=Go.Op.load 50 (Go.Operand.tmp 37),type:=50,pos:= "l14_disk.go:53",after:= #[{on:=0,ground:=Go.Ground.data}],guard:=none}
abbrev oN2:Oper:={dst:=some 39,op:=Go.Op.move (Go.Operand.tmp 7),type:=3,pos:= "l14_disk.go:53",after:= #[],guard:=none}
abbrev oN3:Oper:={dst:=some 40,op:=Go.Op.indexAddr 50 (Go.Operand.tmp 38) (Go.Operand.tmp 39),type:=0,pos:= "l14_disk.go:53",after:= #[{on:=1,ground:=Go.Ground.data},{on:=2,ground:=Go.Ground.data}],guard:=none}
abbrev oN4:Oper:={dst:=some 41,op:=Go.Op.fieldAddr 120 (Go.Operand.tmp 40) 0,type:=0,pos:= "l14_disk.go:53",after:= #[{on:=3,ground:=Go.Ground.data}],guard:=none}
abbrev oN5:Oper:={dst:=some 42,op:=Go.Op.load 3 (Go.Operand.tmp 41),type:=3,pos:= "l14_disk.go:53",after:= #[{on:=4,ground:=Go.Ground.data}],guard:=none}
abbrev oN6:Oper:={dst:=some 43,op:=Go.Op.fieldAddr 120 (Go.Operand.tmp 3) 0,type:=0,pos:= "l14_disk.go:53",after:= #[],guard:=none}
abbrev oN7:Oper:={dst:=some 44,op:=Go.Op.load 3 (Go.Operand.tmp 43),type:=3,pos:= "l14_disk.go:53",after:= #[{on:=6,ground:=Go.Ground.data}],guard:=none}
abbrev oN8:Oper:={dst:=some 45,op:=Go.Op.binOp Go.BinOp.neq 3 (Go.Operand.tmp 42) (Go.Operand.tmp 44) 3,type:=4,pos:= "l14_disk.go:53",after:= #[{on:=5,ground:=Go.Ground.data},{on:=7,ground:=Go.Ground.data}],guard:=none}
abbrev oT0:Oper:={dst:=some 46,op:=Go.Op.fieldAddr 52 (Go.Operand.tmp 5) 1,type:=0,pos:= "l14_disk.go:54",after:= #[],guard:=none}
abbrev oT1:Oper:={dst:=some 47,op:=Go.Op.load 50 (Go.Operand.tmp 46),type:=50,pos:= "l14_disk.go:54",after:= #[{on:=0,ground:=Go.Ground.data}],guard:=none}
abbrev oT2:Oper:={dst:=some 48,op:=Go.Op.fieldAddr 52 (Go.Operand.tmp 2) 1,type:=0,pos:= "l14_disk.go:54",after:= #[],guard:=none}
abbrev oT3:Oper:={dst:=some 49,op:=Go.Op.load 50 (Go.Operand.tmp 48),type:=50,pos:= "l14_disk.go:54",after:= #[{on:=2,ground:=Go.Ground.data}],guard:=none}
abbrev oT4:Oper:={dst:=some 50,op:=Go.Op.move (Go.Operand.tmp 7),type:=3,pos:= "l14_disk.go:54",after:= #[],guard:=none}
abbrev oT5:Oper:={dst:=some 51,op:=Go.Op.indexAddr 50 (Go.Operand.tmp 49) (Go.Operand.tmp 50),type:=0,pos:= "l14_disk.go:54",after:= #[{on:=3,ground:=Go.Ground.data},{on:=4,ground:=Go.Ground.data}],guard:=none}
abbrev oT6:Oper:={dst:=some 52,op:=Go.Op.load 120 (Go.Operand.tmp 51),type:=120,pos:= "l14_disk.go:54",after:= #[{on:=5,ground:=Go.Ground.data}],guard:=none}
abbrev oT7:Oper:={dst:=some 53,op:=Go.Op.buildSlice 50 1 #[(0,Go.Operand.tmp 52)],type:=50,pos:= "l14_disk.go:54",after:= #[{on:=6,ground:=Go.Ground.data}],guard:=none}
abbrev oT8:Oper:={dst:=some 54,op:=Go.Op.call {callee:=Go.Callee.builtin Go.Builtin.append,args:= #[Go.Operand.tmp 47,Go.Operand.tmp 53],argTypes:= #[50,50]},type:=50,pos:= "l14_disk.go:54",after:= #[{on:=1,ground:=Go.Ground.data},{on:=7,ground:=Go.Ground.data}],guard:=none}
abbrev oT9:Oper:={dst:=some 55,op:=Go.Op.fieldAddr 52 (Go.Operand.tmp 5) 1,type:=0,pos:= "l14_disk.go:54",after:= #[{on:=0,ground:=Go.Ground.phase},{on:=1,ground:=Go.Ground.phase},{on:=2,ground:=Go.Ground.phase},{on:=3,ground:=Go.Ground.phase},{on:=4,ground:=Go.Ground.phase},{on:=5,ground:=Go.Ground.phase},{on:=6,ground:=Go.Ground.phase},{on:=7,ground:=Go.Ground.phase},{on:=8,ground:=Go.Ground.phase}],guard:=none}
abbrev oT10:Oper:={dst:=none,op:=Go.Op.store 50 (Go.Operand.tmp 55) (Go.Operand.tmp 54),type:=0,pos:= "l14_disk.go:54",after:= #[{on:=9,ground:=Go.Ground.data},{on:=8,ground:=Go.Ground.data},{on:=8,ground:=Go.Ground.chain},{on:=0,ground:=Go.Ground.phase},{on:=1,ground:=Go.Ground.phase},{on:=2,ground:=Go.Ground.phase},{on:=3,ground:=Go.Ground.phase},{on:=4,ground:=Go.Ground.phase},{on:=5,ground:=Go.Ground.phase},{on:=6,ground:=Go.Ground.phase},{on:=7,ground:=Go.Ground.phase},{on:=8,ground:=Go.Ground.phase}],guard:=none}
theorem putN_succ{ps:List TF}{f:TF}{k:Nat}{L:List TF}{pb:Bool}(h:putN ps f k=(L,pb)):putN ps f (k+1)=(if(elF ps k).1=f.1 then(if pb=false∧f.1≤(elF ps k).1 then L++[f] else L) else(if pb=false∧f.1≤(elF ps k).1 then L++[f] else L)++[elF ps k],pb||decide (f.1≤(elF ps k).1)):=by
 simp only[putN,h]
theorem sPut(w:World)(x:Dx)(f0:Int)(f1 f2:ByteArray)(hr:RdD w x)(h22:x.ps.length≤22):
  Calls Tryz.prog 77 #[.agg #[.int .i64 x.room,.slice x.a x.ps.length x.c],.agg #[.int .i64 f0,.string f1,.string f2]] w fun e w'=>∃y:Dx,y.room=x.room∧y.ps=putF x.ps (f0,f1,f2)∧e= .returned (.agg #[.int .i64 y.room,.slice y.a y.ps.length y.c])∧OwD w' w.heap.size y∧Below w.heap.size w w':=by
 have F:∀W1,W1=w.alloc (.cells #[.int .i64 x.room,.slice x.a x.ps.length x.c] 52)→∀W2,W2=W1.alloc (.cells #[.int .i64 f0,.string f1,.string f2] 120)→∀W3,W3=W2.alloc (.cells #[.int .i64 0,.slice none 0 0] 52)→∀W4,W4=W3.alloc (.cells #[.int .i64 x.room,.slice none 0 0] 52)→
   Wd w W4 x∧(W4.cell? ⟨w.heap.size+1,0,none⟩=some (.int .i64 f0)∧W4.cell? ⟨w.heap.size+1,1,none⟩=some (.string f1)∧W4.cell? ⟨w.heap.size+1,2,none⟩=some (.string f2))∧Bc W4 w.heap.size (w.heap.size+1+1) (.int .i64 0) (.slice none 0 0)∧Bc W4 w.heap.size (w.heap.size+1+1+1) (.int .i64 x.room) (.slice none 0 0)∧W4.heap.size=w.heap.size+4:=by
  intro W1 h1 W2 h2 W3 h3 W4 h4
  have s1:W1.heap.size=w.heap.size+1:=by rw[h1];simp
  have s2:W2.heap.size=w.heap.size+1+1:=by rw[h2];simp[s1]
  have s3:W3.heap.size=w.heap.size+1+1+1:=by rw[h3];simp[s2]
  have s4:W4.heap.size=w.heap.size+4:=by rw[h4];simp[s3]
  have d1:Wd w W1 x:=by rw[h1];exact Wd.made hr _
  have b2:Below W1.heap.size W1 W2:=by rw[h2];exact one_more _ _
  have b3:Below W2.heap.size W2 W3:=by rw[h3];exact one_more _ _
  have b4:Below W3.heap.size W3 W4:=by rw[h4];exact one_more _ _
  have b34:=b3.trans (b4.mono b3.size)
  have F0:W2.cell? ⟨w.heap.size+1,0,none⟩=some (.int .i64 f0)∧W2.cell? ⟨w.heap.size+1,1,none⟩=some (.string f1)∧W2.cell? ⟨w.heap.size+1,2,none⟩=some (.string f2):=by rw[h2,←s1];exact⟨by simp[go_sem],by simp[go_sem],by simp[go_sem]⟩
  have R1:Bc W3 w.heap.size (w.heap.size+1+1) (.int .i64 0) (.slice none 0 0):=by rw[h3];exact Bc.made _ _ (by omega) s2.symm
  have O1:Bc W4 w.heap.size (w.heap.size+1+1+1) (.int .i64 x.room) (.slice none 0 0):=by rw[h4];exact Bc.made _ _ (by omega) s3.symm
  exact⟨(d1.step b2).step b34,⟨(b34.cell (p:=⟨w.heap.size+1,0,none⟩) (by show w.heap.size+1<_;omega)).trans F0.1,(b34.cell (p:=⟨w.heap.size+1,1,none⟩) (by show w.heap.size+1<_;omega)).trans F0.2.1,(b34.cell (p:=⟨w.heap.size+1,2,none⟩) (by show w.heap.size+1<_;omega)).trans F0.2.2⟩,R1.below b4 (by omega),O1,s4⟩
 have G0:=zh (F _ rfl _ rfl _ rfl _ rfl)
 have G1:=zh (fun g e=>(hr.r g e).1)
 have PF:=zh (show putF x.ps (f0,f1,f2)=if(putN x.ps (f0,f1,f2) x.ps.length).2=true then(putN x.ps (f0,f1,f2) x.ps.length).1 else(putN x.ps (f0,f1,f2) x.ps.length).1++[(f0,f1,f2)] from rfl)
 clear F hr
 go_enter Tryz.func77,Tryz.ntmps77
 go_wp2_with fail
 generalize (((w.alloc (.cells #[.int .i64 x.room,.slice x.a x.ps.length x.c] 52)).alloc (.cells #[.int .i64 f0,.string f1,.string f2] 120)).alloc (.cells #[.int .i64 0,.slice none 0 0] 52)).alloc (.cells #[.int .i64 x.room,.slice none 0 0] 52)=W at *
 obtain⟨WD,FF,RB,OB,s3⟩:=zu G0
 have HWD:=zh WD
 have HRB:=zh RB
 have F0:=zh FF.1
 have F1:=zh FF.2.1
 have F2:=zh FF.2.2
 have hO:w.heap.size+1+1+1<W.heap.size:=by omega
 have wl0:w.heap.size<W.heap.size:=by omega
 have wl1:w.heap.size+1<W.heap.size:=by omega
 clear G0 WD RB FF
 go_loopw [6,7] (fun b i wr=>∃(k m c:Nat) (a:Option Addr) (L:List TF) (pb:Bool),b= .bool pb∧i= .int .i64 k∧k≤x.ps.length∧m≤2*k∧Hid (putN x.ps (f0,f1,f2) k=(L,pb))∧Hid (Pt w.heap.size (w.heap.size+1+1+1) W wr x.room L a m c)) (fun _ i _=>x.ps.length-(intOf i).toNat)
 case atStart=>exact⟨0,0,0,none,[],false,rfl,rfl,by omega,by omega,rfl,zh ⟨World.grownBy.refl _ _,OB,⟨rfl,.inl ⟨rfl,rfl⟩⟩⟩⟩
 case round=>
  clear OB
  obtain⟨k,m,c,a,L,pb,rfl,rfl,hk,hm,HP,HPt⟩:=hrel
  by_cases t:k<x.ps.length
  ·have kt:(k:Int)<x.ps.length:=by omega
   obtain⟨g,ea,lg,e0,e1,e2⟩:=cells_of (zu HWD).r t
   have lg0:=(zu G1) g ea
   have gn:g≠w.heap.size+1+1+1:=by omega
   have EP0:Hid (∃p,elF x.ps k=p):=⟨_,rfl⟩
   obtain⟨p,hp⟩:=zu EP0
   rw[hp] at e0 e1 e2
   obtain⟨z0,z1,z2⟩:=p
   have EP:=zh hp
   have D0:=zh e0
   have D1:=zh e1
   have D2:=zh e2
   have HC:=zh (by have h:=(zu HWD).c1;rw[ea] at h;exact h)
   clear hp e0 e1 e2 EP0 ea
   have u1c:=(kcell (zu HPt).gr 1 wl0 (by omega)).trans (zu HC)
   have u10:=(kcell (zu HPt).gr (k*3) lg gn).trans (zu D0)
   have u11:=(kcell (zu HPt).gr (k*3+1) lg gn).trans (zu D1)
   have u12:=(kcell (zu HPt).gr (k*3+2) lg gn).trans (zu D2)
   have u1f:=(kcell (zu HPt).gr 0 wl1 (by omega)).trans (zu F0)
   have u1g:=(kcell (zu HPt).gr 1 wl1 (by omega)).trans (zu F1)
   have u1h:=(kcell (zu HPt).gr 2 wl1 (by omega)).trans (zu F2)
   have u1s:=(zu HPt).gr.size
   cases pb
   ·by_cases qf:f0≤z0
    ·have PBV:True:=trivial
     have QF:f0≤z0:=qf
     have hg:z0≥f0:=qf
     by_cases qe:z0=f0
     ·have K6:wr.cell? ⟨w.heap.size,1,none⟩=some (.slice (some ⟨g,0,none⟩) x.ps.length x.c)∧wr.cell? ⟨g,k*3,none⟩=some (.int .i64 z0)∧wr.cell? ⟨w.heap.size+1,0,none⟩=some (.int .i64 f0):=⟨u1c,u10,u1f⟩
      go_wp2_with fail
      refine wp_region_held_drew (S:=(fun w'=>w'.cell? ⟨w.heap.size,1,none⟩=some (.slice (some ⟨g,0,none⟩) x.ps.length x.c)∧w'.cell? ⟨g,k*3,none⟩=some (.int .i64 z0)∧w'.cell? ⟨w.heap.size+1,0,none⟩=some (.int .i64 f0))) (by kernel_rfl) K6 (fun hHeld=>?_)
      refine tk 0 oS0 (.bool false) rfl (by kernel_rfl) (fun _ _ _ h=>h) (by rfl) (fun w hSw=>?_) hHeld ?_
      ·(try dsimp only at hSw)
       unfold oS0
       go_simp
      try simp only[oS0,Act.put,zA,zB,zC]
      refine tk 1 oS1 (.bool true) rfl (by kernel_rfl) (fun _ _ _ h=>h) (by rfl) (fun w hSw=>?_) hHeld ?_
      ·(try dsimp only at hSw)
       unfold oS1
       go_simp
      try simp only[oS1,Act.put,zA,zB,zC]
      refine tk 2 oS2 (.bool true) rfl (by kernel_rfl) (fun _ _ _ h=>h) (by rfl) (fun w hSw=>?_) hHeld ?_
      ·(try dsimp only at hSw)
       unfold oS2
       go_simp
      try simp only[oS2,Act.put,zA,zB,zC]
      refine tk 3 oS3 (.pointer (some ⟨w.heap.size,1,none⟩)) rfl (by kernel_rfl) (fun _ _ _ h=>h) (by rfl) (fun w hSw=>?_) hHeld ?_
      ·(try dsimp only at hSw)
       unfold oS3
       go_simp
      try simp only[oS3,Act.put,zA,zB,zC]
      refine tk 4 oS4 (.slice (some ⟨g,0,none⟩) x.ps.length x.c) rfl (by kernel_rfl) (fun _ _ _ h=>h) (by rfl) (fun w hSw=>?_) hHeld ?_
      ·(try dsimp only at hSw)
       unfold oS4
       go_simp
      try simp only[oS4,Act.put,zA,zB,zC]
      refine tk 5 oS5 (.int .i64 k) rfl (by kernel_rfl) (fun _ _ _ h=>h) (by rfl) (fun w hSw=>?_) hHeld ?_
      ·(try dsimp only at hSw)
       unfold oS5
       go_simp
      try simp only[oS5,Act.put,zA,zB,zC]
      refine tk 6 oS6 (.pointer (some ⟨g,k*3,none⟩)) rfl (by kernel_rfl) (fun _ _ _ h=>h) (by rfl) (fun w hSw=>?_) hHeld ?_
      ·(try dsimp only at hSw)
       unfold oS6
       go_simp
      try simp only[oS6,Act.put,zA,zB,zC]
      refine tk 7 oS7 (.pointer (some ⟨g,k*3,none⟩)) rfl (by kernel_rfl) (fun _ _ _ h=>h) (by rfl) (fun w hSw=>?_) hHeld ?_
      ·(try dsimp only at hSw)
       unfold oS7
       go_simp
      try simp only[oS7,Act.put,zA,zB,zC]
      refine tk 8 oS8 (.int .i64 z0) rfl (by kernel_rfl) (fun _ _ _ h=>h) (by rfl) (fun w hSw=>?_) hHeld ?_
      ·(try dsimp only at hSw)
       unfold oS8
       go_simp
      try simp only[oS8,Act.put,zA,zB,zC]
      refine tk 9 oS9 (.pointer (some ⟨w.heap.size+1,0,none⟩)) rfl (by kernel_rfl) (fun _ _ _ h=>h) (by rfl) (fun w hSw=>?_) hHeld ?_
      ·(try dsimp only at hSw)
       unfold oS9
       go_simp
      try simp only[oS9,Act.put,zA,zB,zC]
      refine tk 10 oS10 (.int .i64 f0) rfl (by kernel_rfl) (fun _ _ _ h=>h) (by rfl) (fun w hSw=>?_) hHeld ?_
      ·(try dsimp only at hSw)
       unfold oS10
       go_simp
      try simp only[oS10,Act.put,zA,zB,zC]
      refine tk 11 oS11 (.bool true) rfl (by kernel_rfl) (fun _ _ _ h=>h) (by rfl) (fun w hSw=>?_) hHeld ?_
      ·(try dsimp only at hSw)
       unfold oS11
       go_simp
      try simp only[oS11,Act.put,zA,zB,zC]
      refine tk 12 oS12 (.bool true) rfl (by kernel_rfl) (fun _ _ _ h=>h) (by rfl) (fun w hSw=>?_) hHeld ?_
      ·(try dsimp only at hSw)
       unfold oS12
       go_simp
      try simp only[oS12,Act.put,zA,zB,zC]
      refine wpAnyH_done (by kernel_rfl) ?_ _
      have PV:=zh (zu HPt).drew
      generalize wr.drew=v1 at *
      have u5c:=(kcell (zu PV).gr 1 wl0 (by omega)).trans (zu HC)
      have u50:=(kcell (zu PV).gr (k*3) lg gn).trans (zu D0)
      have u51:=(kcell (zu PV).gr (k*3+1) lg gn).trans (zu D1)
      have u52:=(kcell (zu PV).gr (k*3+2) lg gn).trans (zu D2)
      have u5f:=(kcell (zu PV).gr 0 wl1 (by omega)).trans (zu F0)
      have u5g:=(kcell (zu PV).gr 1 wl1 (by omega)).trans (zu F1)
      have u5h:=(kcell (zu PV).gr 2 wl1 (by omega)).trans (zu F2)
      have u5s:=(zu PV).gr.size
      have bo:=(zu PV).bx.c1
      have lo:=(zu PV).bx.lt.2
      have bob:(v1.alloc (.cells #[.int .i64 f0,.string f1,.string f2] 120)).cell? ⟨w.heap.size+1+1+1,1,none⟩=some (.slice a (m) c):=((one_more v1 (.cells #[.int .i64 f0,.string f1,.string f2] 120)).cell (p:=⟨w.heap.size+1+1+1,1,none⟩) lo).trans bo
      have vs:=(zu PV).gr.size
      go_wp2_with (first|(at_builtin;refine wp_app _ rfl _ _ rfl W.heap.size (.slice a (m) c) (m) (flatF (L)) v1.heap.size [.int .i64 f0,.string f1,.string f2] rfl rfl (row_step (zu PV).ow (one_more v1 (.cells #[.int .i64 f0,.string f1,.string f2] 120))) rfl (litm v1 _ _ _ (by rfl)) (by simp[Value.oneCell']) (by omega) (Nat.le_trans vs (by simp)) ?_)|go_in)
      intro g8 c8 u8 o8 gr8
      (try rw[←s3] at o8)
      have PA:=(zu PV).app (p:=(f0,f1,f2)) hO (one_more v1 (.cells #[.int .i64 f0,.string f1,.string f2] 120)) gr8 o8
      have bx8:=PA.1
      have b80:=bx8.c1
      have b81:=bx8.free 1
      have P8:=zh PA.2
      clear o8 gr8 PA bo bob bx8
      go_wp2_with fail
      generalize u8.setCell ⟨w.heap.size+1+1+1,1,none⟩ (.slice (some ⟨g8,0,none⟩) (m+1) c8)=v2 at *
      have NX:=zh (show putN x.ps (f0,f1,f2) (k+1)=((L++[(f0,f1,f2)]),true) from by rw[putN_succ (zu HP),zu EP];simp[PBV,qe,QF])
      have hq:(z0 !=f0)=false:=by simp[qe]
      clear qe
      have u2c:=(kcell (zu P8).gr 1 wl0 (by omega)).trans (zu HC)
      have u20:=(kcell (zu P8).gr (k*3) lg gn).trans (zu D0)
      have u21:=(kcell (zu P8).gr (k*3+1) lg gn).trans (zu D1)
      have u22:=(kcell (zu P8).gr (k*3+2) lg gn).trans (zu D2)
      have u2f:=(kcell (zu P8).gr 0 wl1 (by omega)).trans (zu F0)
      have u2g:=(kcell (zu P8).gr 1 wl1 (by omega)).trans (zu F1)
      have u2h:=(kcell (zu P8).gr 2 wl1 (by omega)).trans (zu F2)
      have u2s:=(zu P8).gr.size
      have K2:v2.cell? ⟨w.heap.size,1,none⟩=some (.slice (some ⟨g,0,none⟩) x.ps.length x.c)∧v2.cell? ⟨g,k*3,none⟩=some (.int .i64 z0)∧v2.cell? ⟨w.heap.size+1,0,none⟩=some (.int .i64 f0):=⟨u2c,u20,u2f⟩
      refine wp_region_held_drew (S:=(fun w'=>w'.cell? ⟨w.heap.size,1,none⟩=some (.slice (some ⟨g,0,none⟩) x.ps.length x.c)∧w'.cell? ⟨g,k*3,none⟩=some (.int .i64 z0)∧w'.cell? ⟨w.heap.size+1,0,none⟩=some (.int .i64 f0))) (by kernel_rfl) K2 (fun hHeld=>?_)
      refine tk 0 oN0 (.pointer (some ⟨w.heap.size,1,none⟩)) rfl (by kernel_rfl) (fun _ _ _ h=>h) (by rfl) (fun w hSw=>?_) hHeld ?_
      ·(try dsimp only at hSw)
       unfold oN0
       go_simp
      try simp only[oN0,Act.put,zA,zB,zC]
      refine tk 1 oN1 (.slice (some ⟨g,0,none⟩) x.ps.length x.c) rfl (by kernel_rfl) (fun _ _ _ h=>h) (by rfl) (fun w hSw=>?_) hHeld ?_
      ·(try dsimp only at hSw)
       unfold oN1
       go_simp
      try simp only[oN1,Act.put,zA,zB,zC]
      refine tk 2 oN2 (.int .i64 k) rfl (by kernel_rfl) (fun _ _ _ h=>h) (by rfl) (fun w hSw=>?_) hHeld ?_
      ·(try dsimp only at hSw)
       unfold oN2
       go_simp
      try simp only[oN2,Act.put,zA,zB,zC]
      refine tk 3 oN3 (.pointer (some ⟨g,k*3,none⟩)) rfl (by kernel_rfl) (fun _ _ _ h=>h) (by rfl) (fun w hSw=>?_) hHeld ?_
      ·(try dsimp only at hSw)
       unfold oN3
       go_simp
      try simp only[oN3,Act.put,zA,zB,zC]
      refine tk 4 oN4 (.pointer (some ⟨g,k*3,none⟩)) rfl (by kernel_rfl) (fun _ _ _ h=>h) (by rfl) (fun w hSw=>?_) hHeld ?_
      ·(try dsimp only at hSw)
       unfold oN4
       go_simp
      try simp only[oN4,Act.put,zA,zB,zC]
      refine tk 5 oN5 (.int .i64 z0) rfl (by kernel_rfl) (fun _ _ _ h=>h) (by rfl) (fun w hSw=>?_) hHeld ?_
      ·(try dsimp only at hSw)
       unfold oN5
       go_simp
      try simp only[oN5,Act.put,zA,zB,zC]
      refine tk 6 oN6 (.pointer (some ⟨w.heap.size+1,0,none⟩)) rfl (by kernel_rfl) (fun _ _ _ h=>h) (by rfl) (fun w hSw=>?_) hHeld ?_
      ·(try dsimp only at hSw)
       unfold oN6
       go_simp
      try simp only[oN6,Act.put,zA,zB,zC]
      refine tk 7 oN7 (.int .i64 f0) rfl (by kernel_rfl) (fun _ _ _ h=>h) (by rfl) (fun w hSw=>?_) hHeld ?_
      ·(try dsimp only at hSw)
       unfold oN7
       go_simp
      try simp only[oN7,Act.put,zA,zB,zC]
      refine tk 8 oN8 (.bool false) rfl (by kernel_rfl) (fun _ _ _ h=>h) (by rfl) (fun w hSw=>?_) hHeld ?_
      ·(try dsimp only at hSw)
       unfold oN8
       go_simp
      try simp only[oN8,Act.put,zA,zB,zC]
      refine wpAnyH_done (by kernel_rfl) ?_ _
      have P8D:=zh (zu P8).drew
      go_wp2
      go_roundw
      case rel=>exact⟨k+1,(m+1),c8,(some ⟨g8,0,none⟩),(L++[(f0,f1,f2)]),true,rfl,by go_num,by omega,by omega,NX,P8D⟩
      case measure=>simp[intOf];omega
     ·have K6:wr.cell? ⟨w.heap.size,1,none⟩=some (.slice (some ⟨g,0,none⟩) x.ps.length x.c)∧wr.cell? ⟨g,k*3,none⟩=some (.int .i64 z0)∧wr.cell? ⟨w.heap.size+1,0,none⟩=some (.int .i64 f0):=⟨u1c,u10,u1f⟩
      go_wp2_with fail
      refine wp_region_held_drew (S:=(fun w'=>w'.cell? ⟨w.heap.size,1,none⟩=some (.slice (some ⟨g,0,none⟩) x.ps.length x.c)∧w'.cell? ⟨g,k*3,none⟩=some (.int .i64 z0)∧w'.cell? ⟨w.heap.size+1,0,none⟩=some (.int .i64 f0))) (by kernel_rfl) K6 (fun hHeld=>?_)
      refine tk 0 oS0 (.bool false) rfl (by kernel_rfl) (fun _ _ _ h=>h) (by rfl) (fun w hSw=>?_) hHeld ?_
      ·(try dsimp only at hSw)
       unfold oS0
       go_simp
      try simp only[oS0,Act.put,zA,zB,zC]
      refine tk 1 oS1 (.bool true) rfl (by kernel_rfl) (fun _ _ _ h=>h) (by rfl) (fun w hSw=>?_) hHeld ?_
      ·(try dsimp only at hSw)
       unfold oS1
       go_simp
      try simp only[oS1,Act.put,zA,zB,zC]
      refine tk 2 oS2 (.bool true) rfl (by kernel_rfl) (fun _ _ _ h=>h) (by rfl) (fun w hSw=>?_) hHeld ?_
      ·(try dsimp only at hSw)
       unfold oS2
       go_simp
      try simp only[oS2,Act.put,zA,zB,zC]
      refine tk 3 oS3 (.pointer (some ⟨w.heap.size,1,none⟩)) rfl (by kernel_rfl) (fun _ _ _ h=>h) (by rfl) (fun w hSw=>?_) hHeld ?_
      ·(try dsimp only at hSw)
       unfold oS3
       go_simp
      try simp only[oS3,Act.put,zA,zB,zC]
      refine tk 4 oS4 (.slice (some ⟨g,0,none⟩) x.ps.length x.c) rfl (by kernel_rfl) (fun _ _ _ h=>h) (by rfl) (fun w hSw=>?_) hHeld ?_
      ·(try dsimp only at hSw)
       unfold oS4
       go_simp
      try simp only[oS4,Act.put,zA,zB,zC]
      refine tk 5 oS5 (.int .i64 k) rfl (by kernel_rfl) (fun _ _ _ h=>h) (by rfl) (fun w hSw=>?_) hHeld ?_
      ·(try dsimp only at hSw)
       unfold oS5
       go_simp
      try simp only[oS5,Act.put,zA,zB,zC]
      refine tk 6 oS6 (.pointer (some ⟨g,k*3,none⟩)) rfl (by kernel_rfl) (fun _ _ _ h=>h) (by rfl) (fun w hSw=>?_) hHeld ?_
      ·(try dsimp only at hSw)
       unfold oS6
       go_simp
      try simp only[oS6,Act.put,zA,zB,zC]
      refine tk 7 oS7 (.pointer (some ⟨g,k*3,none⟩)) rfl (by kernel_rfl) (fun _ _ _ h=>h) (by rfl) (fun w hSw=>?_) hHeld ?_
      ·(try dsimp only at hSw)
       unfold oS7
       go_simp
      try simp only[oS7,Act.put,zA,zB,zC]
      refine tk 8 oS8 (.int .i64 z0) rfl (by kernel_rfl) (fun _ _ _ h=>h) (by rfl) (fun w hSw=>?_) hHeld ?_
      ·(try dsimp only at hSw)
       unfold oS8
       go_simp
      try simp only[oS8,Act.put,zA,zB,zC]
      refine tk 9 oS9 (.pointer (some ⟨w.heap.size+1,0,none⟩)) rfl (by kernel_rfl) (fun _ _ _ h=>h) (by rfl) (fun w hSw=>?_) hHeld ?_
      ·(try dsimp only at hSw)
       unfold oS9
       go_simp
      try simp only[oS9,Act.put,zA,zB,zC]
      refine tk 10 oS10 (.int .i64 f0) rfl (by kernel_rfl) (fun _ _ _ h=>h) (by rfl) (fun w hSw=>?_) hHeld ?_
      ·(try dsimp only at hSw)
       unfold oS10
       go_simp
      try simp only[oS10,Act.put,zA,zB,zC]
      refine tk 11 oS11 (.bool true) rfl (by kernel_rfl) (fun _ _ _ h=>h) (by rfl) (fun w hSw=>?_) hHeld ?_
      ·(try dsimp only at hSw)
       unfold oS11
       go_simp
      try simp only[oS11,Act.put,zA,zB,zC]
      refine tk 12 oS12 (.bool true) rfl (by kernel_rfl) (fun _ _ _ h=>h) (by rfl) (fun w hSw=>?_) hHeld ?_
      ·(try dsimp only at hSw)
       unfold oS12
       go_simp
      try simp only[oS12,Act.put,zA,zB,zC]
      refine wpAnyH_done (by kernel_rfl) ?_ _
      have PV:=zh (zu HPt).drew
      generalize wr.drew=v1 at *
      have u5c:=(kcell (zu PV).gr 1 wl0 (by omega)).trans (zu HC)
      have u50:=(kcell (zu PV).gr (k*3) lg gn).trans (zu D0)
      have u51:=(kcell (zu PV).gr (k*3+1) lg gn).trans (zu D1)
      have u52:=(kcell (zu PV).gr (k*3+2) lg gn).trans (zu D2)
      have u5f:=(kcell (zu PV).gr 0 wl1 (by omega)).trans (zu F0)
      have u5g:=(kcell (zu PV).gr 1 wl1 (by omega)).trans (zu F1)
      have u5h:=(kcell (zu PV).gr 2 wl1 (by omega)).trans (zu F2)
      have u5s:=(zu PV).gr.size
      have bo:=(zu PV).bx.c1
      have lo:=(zu PV).bx.lt.2
      have bob:(v1.alloc (.cells #[.int .i64 f0,.string f1,.string f2] 120)).cell? ⟨w.heap.size+1+1+1,1,none⟩=some (.slice a (m) c):=((one_more v1 (.cells #[.int .i64 f0,.string f1,.string f2] 120)).cell (p:=⟨w.heap.size+1+1+1,1,none⟩) lo).trans bo
      have vs:=(zu PV).gr.size
      go_wp2_with (first|(at_builtin;refine wp_app _ rfl _ _ rfl W.heap.size (.slice a (m) c) (m) (flatF (L)) v1.heap.size [.int .i64 f0,.string f1,.string f2] rfl rfl (row_step (zu PV).ow (one_more v1 (.cells #[.int .i64 f0,.string f1,.string f2] 120))) rfl (litm v1 _ _ _ (by rfl)) (by simp[Value.oneCell']) (by omega) (Nat.le_trans vs (by simp)) ?_)|go_in)
      intro g8 c8 u8 o8 gr8
      (try rw[←s3] at o8)
      have PA:=(zu PV).app (p:=(f0,f1,f2)) hO (one_more v1 (.cells #[.int .i64 f0,.string f1,.string f2] 120)) gr8 o8
      have bx8:=PA.1
      have b80:=bx8.c1
      have b81:=bx8.free 1
      have P8:=zh PA.2
      clear o8 gr8 PA bo bob bx8
      go_wp2_with fail
      generalize u8.setCell ⟨w.heap.size+1+1+1,1,none⟩ (.slice (some ⟨g8,0,none⟩) (m+1) c8)=v2 at *
      have NX:=zh (show putN x.ps (f0,f1,f2) (k+1)=((L++[(f0,f1,f2)])++[(z0,z1,z2)],true) from by rw[putN_succ (zu HP),zu EP];simp[PBV,qe,QF])
      have hq:(z0 !=f0)=true:=by simp[qe]
      clear qe
      have u2c:=(kcell (zu P8).gr 1 wl0 (by omega)).trans (zu HC)
      have u20:=(kcell (zu P8).gr (k*3) lg gn).trans (zu D0)
      have u21:=(kcell (zu P8).gr (k*3+1) lg gn).trans (zu D1)
      have u22:=(kcell (zu P8).gr (k*3+2) lg gn).trans (zu D2)
      have u2f:=(kcell (zu P8).gr 0 wl1 (by omega)).trans (zu F0)
      have u2g:=(kcell (zu P8).gr 1 wl1 (by omega)).trans (zu F1)
      have u2h:=(kcell (zu P8).gr 2 wl1 (by omega)).trans (zu F2)
      have u2s:=(zu P8).gr.size
      have K2:v2.cell? ⟨w.heap.size,1,none⟩=some (.slice (some ⟨g,0,none⟩) x.ps.length x.c)∧v2.cell? ⟨g,k*3,none⟩=some (.int .i64 z0)∧v2.cell? ⟨w.heap.size+1,0,none⟩=some (.int .i64 f0):=⟨u2c,u20,u2f⟩
      refine wp_region_held_drew (S:=(fun w'=>w'.cell? ⟨w.heap.size,1,none⟩=some (.slice (some ⟨g,0,none⟩) x.ps.length x.c)∧w'.cell? ⟨g,k*3,none⟩=some (.int .i64 z0)∧w'.cell? ⟨w.heap.size+1,0,none⟩=some (.int .i64 f0))) (by kernel_rfl) K2 (fun hHeld=>?_)
      refine tk 0 oN0 (.pointer (some ⟨w.heap.size,1,none⟩)) rfl (by kernel_rfl) (fun _ _ _ h=>h) (by rfl) (fun w hSw=>?_) hHeld ?_
      ·(try dsimp only at hSw)
       unfold oN0
       go_simp
      try simp only[oN0,Act.put,zA,zB,zC]
      refine tk 1 oN1 (.slice (some ⟨g,0,none⟩) x.ps.length x.c) rfl (by kernel_rfl) (fun _ _ _ h=>h) (by rfl) (fun w hSw=>?_) hHeld ?_
      ·(try dsimp only at hSw)
       unfold oN1
       go_simp
      try simp only[oN1,Act.put,zA,zB,zC]
      refine tk 2 oN2 (.int .i64 k) rfl (by kernel_rfl) (fun _ _ _ h=>h) (by rfl) (fun w hSw=>?_) hHeld ?_
      ·(try dsimp only at hSw)
       unfold oN2
       go_simp
      try simp only[oN2,Act.put,zA,zB,zC]
      refine tk 3 oN3 (.pointer (some ⟨g,k*3,none⟩)) rfl (by kernel_rfl) (fun _ _ _ h=>h) (by rfl) (fun w hSw=>?_) hHeld ?_
      ·(try dsimp only at hSw)
       unfold oN3
       go_simp
      try simp only[oN3,Act.put,zA,zB,zC]
      refine tk 4 oN4 (.pointer (some ⟨g,k*3,none⟩)) rfl (by kernel_rfl) (fun _ _ _ h=>h) (by rfl) (fun w hSw=>?_) hHeld ?_
      ·(try dsimp only at hSw)
       unfold oN4
       go_simp
      try simp only[oN4,Act.put,zA,zB,zC]
      refine tk 5 oN5 (.int .i64 z0) rfl (by kernel_rfl) (fun _ _ _ h=>h) (by rfl) (fun w hSw=>?_) hHeld ?_
      ·(try dsimp only at hSw)
       unfold oN5
       go_simp
      try simp only[oN5,Act.put,zA,zB,zC]
      refine tk 6 oN6 (.pointer (some ⟨w.heap.size+1,0,none⟩)) rfl (by kernel_rfl) (fun _ _ _ h=>h) (by rfl) (fun w hSw=>?_) hHeld ?_
      ·(try dsimp only at hSw)
       unfold oN6
       go_simp
      try simp only[oN6,Act.put,zA,zB,zC]
      refine tk 7 oN7 (.int .i64 f0) rfl (by kernel_rfl) (fun _ _ _ h=>h) (by rfl) (fun w hSw=>?_) hHeld ?_
      ·(try dsimp only at hSw)
       unfold oN7
       go_simp
      try simp only[oN7,Act.put,zA,zB,zC]
      refine tk 8 oN8 (.bool true) rfl (by kernel_rfl) (fun _ _ _ h=>h) (by rfl) (fun w hSw=>?_) hHeld ?_
      ·(try dsimp only at hSw)
       unfold oN8
       go_simp
      try simp only[oN8,Act.put,zA,zB,zC]
      refine wpAnyH_done (by kernel_rfl) ?_ _
      have P8D:=zh (zu P8).drew
      go_wp2_with fail
      generalize v2.drew=q2 at *
      have u3c:=(kcell (zu P8D).gr 1 wl0 (by omega)).trans (zu HC)
      have u30:=(kcell (zu P8D).gr (k*3) lg gn).trans (zu D0)
      have u31:=(kcell (zu P8D).gr (k*3+1) lg gn).trans (zu D1)
      have u32:=(kcell (zu P8D).gr (k*3+2) lg gn).trans (zu D2)
      have u3f:=(kcell (zu P8D).gr 0 wl1 (by omega)).trans (zu F0)
      have u3g:=(kcell (zu P8D).gr 1 wl1 (by omega)).trans (zu F1)
      have u3h:=(kcell (zu P8D).gr 2 wl1 (by omega)).trans (zu F2)
      have u3s:=(zu P8D).gr.size
      have K0:q2.cell? ⟨w.heap.size,1,none⟩=some (.slice (some ⟨g,0,none⟩) x.ps.length x.c)∧q2.cell? ⟨g,k*3,none⟩=some (.int .i64 z0)∧q2.cell? ⟨g,k*3+1,none⟩=some (.string z1)∧q2.cell? ⟨g,k*3+2,none⟩=some (.string z2):=⟨u3c,u30,u31,u32⟩
      have KB:(q2.drew.alloc (.cells #[.int .i64 z0,.string z1,.string z2] 120)).cell? ⟨w.heap.size,1,none⟩=some (.slice (some ⟨g,0,none⟩) x.ps.length x.c)∧(q2.drew.alloc (.cells #[.int .i64 z0,.string z1,.string z2] 120)).cell? ⟨g,k*3,none⟩=some (.int .i64 z0)∧(q2.drew.alloc (.cells #[.int .i64 z0,.string z1,.string z2] 120)).cell? ⟨g,k*3+1,none⟩=some (.string z1)∧(q2.drew.alloc (.cells #[.int .i64 z0,.string z1,.string z2] 120)).cell? ⟨g,k*3+2,none⟩=some (.string z2):=⟨((one_more q2.drew (.cells #[.int .i64 z0,.string z1,.string z2] 120)).cell (p:=⟨w.heap.size,1,none⟩) (show w.heap.size<q2.heap.size from by omega)).trans u3c,((one_more q2.drew (.cells #[.int .i64 z0,.string z1,.string z2] 120)).cell (p:=⟨g,k*3,none⟩) (show g<q2.heap.size from by omega)).trans u30,((one_more q2.drew (.cells #[.int .i64 z0,.string z1,.string z2] 120)).cell (p:=⟨g,k*3+1,none⟩) (show g<q2.heap.size from by omega)).trans u31,((one_more q2.drew (.cells #[.int .i64 z0,.string z1,.string z2] 120)).cell (p:=⟨g,k*3+2,none⟩) (show g<q2.heap.size from by omega)).trans u32⟩
      have bc:=(zu P8D).bx.c1
      have lo9:=(zu P8D).bx.lt.2
      have bcD:q2.drew.cell? ⟨w.heap.size+1+1+1,1,none⟩=some (.slice (some ⟨g8,0,none⟩) ((m+1)) c8):=bc
      have bcA:(q2.alloc (.cells #[.int .i64 z0,.string z1,.string z2] 120)).cell? ⟨w.heap.size+1+1+1,1,none⟩=some (.slice (some ⟨g8,0,none⟩) ((m+1)) c8):=((one_more q2.drew (.cells #[.int .i64 z0,.string z1,.string z2] 120)).cell (p:=⟨w.heap.size+1+1+1,1,none⟩) lo9).trans bc
      refine wp_region_held_drew (S:=(fun w'=>w'.cell? ⟨w.heap.size,1,none⟩=some (.slice (some ⟨g,0,none⟩) x.ps.length x.c)∧w'.cell? ⟨g,k*3,none⟩=some (.int .i64 z0)∧w'.cell? ⟨g,k*3+1,none⟩=some (.string z1)∧w'.cell? ⟨g,k*3+2,none⟩=some (.string z2))) (by kernel_rfl) K0 (fun hHeld=>?_)
      refine tk 0 oT0 (.pointer (some ⟨w.heap.size+1+1+1,1,none⟩)) rfl (by kernel_rfl) (fun _ _ _ h=>h) (by rfl) (fun w hSw=>?_) hHeld ?_
      ·(try dsimp only at hSw)
       unfold oT0
       go_simp
      try simp only[oT0,Act.put,zA,zB,zC]
      refine tk 2 oT2 (.pointer (some ⟨w.heap.size,1,none⟩)) rfl (by kernel_rfl) (fun _ _ _ h=>h) (by rfl) (fun w hSw=>?_) hHeld ?_
      ·(try dsimp only at hSw)
       unfold oT2
       go_simp
      try simp only[oT2,Act.put,zA,zB,zC]
      refine tk 3 oT3 (.slice (some ⟨g,0,none⟩) x.ps.length x.c) rfl (by kernel_rfl) (fun _ _ _ h=>h) (by rfl) (fun w hSw=>?_) hHeld ?_
      ·(try dsimp only at hSw)
       unfold oT3
       go_simp
      try simp only[oT3,Act.put,zA,zB,zC]
      refine tk 4 oT4 (.int .i64 k) rfl (by kernel_rfl) (fun _ _ _ h=>h) (by rfl) (fun w hSw=>?_) hHeld ?_
      ·(try dsimp only at hSw)
       unfold oT4
       go_simp
      try simp only[oT4,Act.put,zA,zB,zC]
      refine tk 5 oT5 (.pointer (some ⟨g,k*3,none⟩)) rfl (by kernel_rfl) (fun _ _ _ h=>h) (by rfl) (fun w hSw=>?_) hHeld ?_
      ·(try dsimp only at hSw)
       unfold oT5
       go_simp
      try simp only[oT5,Act.put,zA,zB,zC]
      refine tk 6 oT6 (.agg #[.int .i64 z0,.string z1,.string z2]) rfl (by kernel_rfl) (fun _ _ _ h=>h) (by rfl) (fun w hSw=>?_) hHeld ?_
      ·(try dsimp only at hSw)
       unfold oT6
       go_simp
      try simp only[oT6,Act.put,zA,zB,zC]
      refine wpAnyH_ready (rs:=[1,7]) (by kernel_rfl) (by simp) ?_
      refine AllReadyH.cons (o:=oT1) rfl (fun K hK=>?_) (AllReadyH.cons (o:=oT7) rfl (fun K hK=>?_) AllReadyH.nil)
      ·unfold oT1
       go_simp
       refine hK.out _ _ K0 (fun hHeld=>?_)
       clear hK K
       try simp only[oT1,Act.put,zA,zB,zC]
       refine wpAnyH_ready (rs:=[7]) (by kernel_rfl) (by simp) ?_
       refine AllReadyH.cons (o:=oT7) rfl (fun K hK=>?_) AllReadyH.nil
       unfold oT7
       go_simp
       refine hK.out _ _ KB (fun hHeld=>?_)
       clear hK K
       try simp only[oT7,Act.put,zA,zB,zC]
       refine wpAnyH_ready (rs:=[8]) (by kernel_rfl) (by simp) ?_
       refine AllReadyH.cons (o:=oT8) rfl (fun K hK=>?_) AllReadyH.nil
       refine step_app (q2.drew.alloc (.cells #[.int .i64 z0,.string z1,.string z2] 120)) (by rfl) _ _ 50 120 (by rfl) (.agg #[.int .i64 0,.string ByteArray.empty,.string ByteArray.empty]) 3 40 Tryz.underlying50 HelpF14.info2 rfl (by decide) (by decide) W.heap.size (.slice (some ⟨g8,0,none⟩) ((m+1)) c8) ((m+1)) (flatF ((L++[(f0,f1,f2)]))) q2.drew.heap.size [.int .i64 z0,.string z1,.string z2] (by rfl) (by rfl) (row_step (W:=q2.drew) (zu P8D).ow (one_more q2.drew (.cells #[.int .i64 z0,.string z1,.string z2] 120))) rfl (litm q2.drew _ _ _ (by rfl)) (by simp[Value.oneCell']) (by omega) (Nat.le_trans (show W.heap.size≤q2.drew.heap.size from u3s) (by simp)) ?_
       intro g9 c9 u9 o9 gr9
       have BL:=(zu P8D).off
       have PA:=(zu P8D).app (p:=(z0,z1,z2)) hO ((Below.refl _ _).drew.alloc (Nat.le_refl _) (.cells #[.int .i64 z0,.string z1,.string z2] 120)) gr9 o9
       have bx9:=PA.1
       have bc9:=bx9.c1
       have fr9:=bx9.free 1
       have P9:=zh PA.2
       have us9:=gr9.size
       simp at us9
       have KC:u9.cell? ⟨w.heap.size,1,none⟩=some (.slice (some ⟨g,0,none⟩) x.ps.length x.c)∧u9.cell? ⟨g,k*3,none⟩=some (.int .i64 z0)∧u9.cell? ⟨g,k*3+1,none⟩=some (.string z1)∧u9.cell? ⟨g,k*3+2,none⟩=some (.string z2):=⟨gr9.cell KB.1 (fun e=>by have:=BL _ e.symm;simp only at this;omega),gr9.cell KB.2.1 (fun e=>by have:=BL _ e.symm;simp only at this;omega),gr9.cell KB.2.2.1 (fun e=>by have:=BL _ e.symm;simp only at this;omega),gr9.cell KB.2.2.2 (fun e=>by have:=BL _ e.symm;simp only at this;omega)⟩
       have SB:=bc_set1 bx9 (.slice (some ⟨g9,0,none⟩) ((m+1)+1) c9)
       have KD:(u9.setCell ⟨w.heap.size+1+1+1,1,none⟩ (.slice (some ⟨g9,0,none⟩) ((m+1)+1) c9)).cell? ⟨w.heap.size,1,none⟩=some (.slice (some ⟨g,0,none⟩) x.ps.length x.c)∧(u9.setCell ⟨w.heap.size+1+1+1,1,none⟩ (.slice (some ⟨g9,0,none⟩) ((m+1)+1) c9)).cell? ⟨g,k*3,none⟩=some (.int .i64 z0)∧(u9.setCell ⟨w.heap.size+1+1+1,1,none⟩ (.slice (some ⟨g9,0,none⟩) ((m+1)+1) c9)).cell? ⟨g,k*3+1,none⟩=some (.string z1)∧(u9.setCell ⟨w.heap.size+1+1+1,1,none⟩ (.slice (some ⟨g9,0,none⟩) ((m+1)+1) c9)).cell? ⟨g,k*3+2,none⟩=some (.string z2):=⟨(kcell SB.2 (1) (show w.heap.size<u9.heap.size from by omega) (show w.heap.size≠w.heap.size+1+1+1 from by omega)).trans KC.1,(kcell SB.2 (k*3) (show g<u9.heap.size from by omega) (show g≠w.heap.size+1+1+1 from by omega)).trans KC.2.1,(kcell SB.2 (k*3+1) (show g<u9.heap.size from by omega) (show g≠w.heap.size+1+1+1 from by omega)).trans KC.2.2.1,(kcell SB.2 (k*3+2) (show g<u9.heap.size from by omega) (show g≠w.heap.size+1+1+1 from by omega)).trans KC.2.2.2⟩
       clear o9 gr9 PA SB bx9 BL
       refine hK.out _ _ KC (fun hHeld=>?_)
       clear hK K
       try simp only[oT8,Act.put,zA,zB,zC]
       refine tk 9 oT9 (.pointer (some ⟨w.heap.size+1+1+1,1,none⟩)) rfl (by kernel_rfl) (fun _ _ _ h=>h) (by rfl) (fun w hSw=>?_) hHeld ?_
       ·(try dsimp only at hSw)
        unfold oT9
        go_simp
       try simp only[oT9,Act.put,zA,zB,zC]
       refine wpAnyH_ready (rs:=[10]) (by kernel_rfl) (by simp) ?_
       refine AllReadyH.cons (o:=oT10) rfl (fun K hK=>?_) AllReadyH.nil
       unfold oT10
       go_simp
       refine hK.out _ _ KD (fun hHeld=>?_)
       clear hK K
       try simp only[oT10,Act.put,zA,zB,zC]
       refine wpAnyH_done (by kernel_rfl) ?_ _
       clear K0 KB KC KD bc bcD bcA bc9 fr9
       go_wp2
       go_roundw
       case rel=>exact⟨k+1,(m+1)+1,c9,some ⟨g9,0,none⟩,(L++[(f0,f1,f2)])++[(z0,z1,z2)],true,rfl,by go_num,by omega,by omega,NX,P9⟩
       case measure=>simp[intOf];omega
      ·unfold oT7
       go_simp
       refine hK.out _ _ KB (fun hHeld=>?_)
       clear hK K
       try simp only[oT7,Act.put,zA,zB,zC]
       refine wpAnyH_ready (rs:=[1]) (by kernel_rfl) (by simp) ?_
       refine AllReadyH.cons (o:=oT1) rfl (fun K hK=>?_) AllReadyH.nil
       unfold oT1
       go_simp
       refine hK.out _ _ KB (fun hHeld=>?_)
       clear hK K
       try simp only[oT1,Act.put,zA,zB,zC]
       refine wpAnyH_ready (rs:=[8]) (by kernel_rfl) (by simp) ?_
       refine AllReadyH.cons (o:=oT8) rfl (fun K hK=>?_) AllReadyH.nil
       refine step_app (q2.drew.alloc (.cells #[.int .i64 z0,.string z1,.string z2] 120)) (by rfl) _ _ 50 120 (by rfl) (.agg #[.int .i64 0,.string ByteArray.empty,.string ByteArray.empty]) 3 40 Tryz.underlying50 HelpF14.info2 rfl (by decide) (by decide) W.heap.size (.slice (some ⟨g8,0,none⟩) ((m+1)) c8) ((m+1)) (flatF ((L++[(f0,f1,f2)]))) q2.drew.heap.size [.int .i64 z0,.string z1,.string z2] (by rfl) (by rfl) (row_step (W:=q2.drew) (zu P8D).ow (one_more q2.drew (.cells #[.int .i64 z0,.string z1,.string z2] 120))) rfl (litm q2.drew _ _ _ (by rfl)) (by simp[Value.oneCell']) (by omega) (Nat.le_trans (show W.heap.size≤q2.drew.heap.size from u3s) (by simp)) ?_
       intro g9 c9 u9 o9 gr9
       have BL:=(zu P8D).off
       have PA:=(zu P8D).app (p:=(z0,z1,z2)) hO ((Below.refl _ _).drew.alloc (Nat.le_refl _) (.cells #[.int .i64 z0,.string z1,.string z2] 120)) gr9 o9
       have bx9:=PA.1
       have bc9:=bx9.c1
       have fr9:=bx9.free 1
       have P9:=zh PA.2
       have us9:=gr9.size
       simp at us9
       have KC:u9.cell? ⟨w.heap.size,1,none⟩=some (.slice (some ⟨g,0,none⟩) x.ps.length x.c)∧u9.cell? ⟨g,k*3,none⟩=some (.int .i64 z0)∧u9.cell? ⟨g,k*3+1,none⟩=some (.string z1)∧u9.cell? ⟨g,k*3+2,none⟩=some (.string z2):=⟨gr9.cell KB.1 (fun e=>by have:=BL _ e.symm;simp only at this;omega),gr9.cell KB.2.1 (fun e=>by have:=BL _ e.symm;simp only at this;omega),gr9.cell KB.2.2.1 (fun e=>by have:=BL _ e.symm;simp only at this;omega),gr9.cell KB.2.2.2 (fun e=>by have:=BL _ e.symm;simp only at this;omega)⟩
       have SB:=bc_set1 bx9 (.slice (some ⟨g9,0,none⟩) ((m+1)+1) c9)
       have KD:(u9.setCell ⟨w.heap.size+1+1+1,1,none⟩ (.slice (some ⟨g9,0,none⟩) ((m+1)+1) c9)).cell? ⟨w.heap.size,1,none⟩=some (.slice (some ⟨g,0,none⟩) x.ps.length x.c)∧(u9.setCell ⟨w.heap.size+1+1+1,1,none⟩ (.slice (some ⟨g9,0,none⟩) ((m+1)+1) c9)).cell? ⟨g,k*3,none⟩=some (.int .i64 z0)∧(u9.setCell ⟨w.heap.size+1+1+1,1,none⟩ (.slice (some ⟨g9,0,none⟩) ((m+1)+1) c9)).cell? ⟨g,k*3+1,none⟩=some (.string z1)∧(u9.setCell ⟨w.heap.size+1+1+1,1,none⟩ (.slice (some ⟨g9,0,none⟩) ((m+1)+1) c9)).cell? ⟨g,k*3+2,none⟩=some (.string z2):=⟨(kcell SB.2 (1) (show w.heap.size<u9.heap.size from by omega) (show w.heap.size≠w.heap.size+1+1+1 from by omega)).trans KC.1,(kcell SB.2 (k*3) (show g<u9.heap.size from by omega) (show g≠w.heap.size+1+1+1 from by omega)).trans KC.2.1,(kcell SB.2 (k*3+1) (show g<u9.heap.size from by omega) (show g≠w.heap.size+1+1+1 from by omega)).trans KC.2.2.1,(kcell SB.2 (k*3+2) (show g<u9.heap.size from by omega) (show g≠w.heap.size+1+1+1 from by omega)).trans KC.2.2.2⟩
       clear o9 gr9 PA SB bx9 BL
       refine hK.out _ _ KC (fun hHeld=>?_)
       clear hK K
       try simp only[oT8,Act.put,zA,zB,zC]
       refine tk 9 oT9 (.pointer (some ⟨w.heap.size+1+1+1,1,none⟩)) rfl (by kernel_rfl) (fun _ _ _ h=>h) (by rfl) (fun w hSw=>?_) hHeld ?_
       ·(try dsimp only at hSw)
        unfold oT9
        go_simp
       try simp only[oT9,Act.put,zA,zB,zC]
       refine wpAnyH_ready (rs:=[10]) (by kernel_rfl) (by simp) ?_
       refine AllReadyH.cons (o:=oT10) rfl (fun K hK=>?_) AllReadyH.nil
       unfold oT10
       go_simp
       refine hK.out _ _ KD (fun hHeld=>?_)
       clear hK K
       try simp only[oT10,Act.put,zA,zB,zC]
       refine wpAnyH_done (by kernel_rfl) ?_ _
       clear K0 KB KC KD bc bcD bcA bc9 fr9
       go_wp2
       go_roundw
       case rel=>exact⟨k+1,(m+1)+1,c9,some ⟨g9,0,none⟩,(L++[(f0,f1,f2)])++[(z0,z1,z2)],true,rfl,by go_num,by omega,by omega,NX,P9⟩
       case measure=>simp[intOf];omega
    ·have PBV:True:=trivial
     have QF:¬f0≤z0:=qf
     have hg:¬z0≥f0:=qf
     have qe:¬z0=f0:=by omega
     have K6:wr.cell? ⟨w.heap.size,1,none⟩=some (.slice (some ⟨g,0,none⟩) x.ps.length x.c)∧wr.cell? ⟨g,k*3,none⟩=some (.int .i64 z0)∧wr.cell? ⟨w.heap.size+1,0,none⟩=some (.int .i64 f0):=⟨u1c,u10,u1f⟩
     go_wp2_with fail
     refine wp_region_held_drew (S:=(fun w'=>w'.cell? ⟨w.heap.size,1,none⟩=some (.slice (some ⟨g,0,none⟩) x.ps.length x.c)∧w'.cell? ⟨g,k*3,none⟩=some (.int .i64 z0)∧w'.cell? ⟨w.heap.size+1,0,none⟩=some (.int .i64 f0))) (by kernel_rfl) K6 (fun hHeld=>?_)
     refine tk 0 oS0 (.bool false) rfl (by kernel_rfl) (fun _ _ _ h=>h) (by rfl) (fun w hSw=>?_) hHeld ?_
     ·(try dsimp only at hSw)
      unfold oS0
      go_simp
     try simp only[oS0,Act.put,zA,zB,zC]
     refine tk 1 oS1 (.bool true) rfl (by kernel_rfl) (fun _ _ _ h=>h) (by rfl) (fun w hSw=>?_) hHeld ?_
     ·(try dsimp only at hSw)
      unfold oS1
      go_simp
     try simp only[oS1,Act.put,zA,zB,zC]
     refine tk 2 oS2 (.bool true) rfl (by kernel_rfl) (fun _ _ _ h=>h) (by rfl) (fun w hSw=>?_) hHeld ?_
     ·(try dsimp only at hSw)
      unfold oS2
      go_simp
     try simp only[oS2,Act.put,zA,zB,zC]
     refine tk 3 oS3 (.pointer (some ⟨w.heap.size,1,none⟩)) rfl (by kernel_rfl) (fun _ _ _ h=>h) (by rfl) (fun w hSw=>?_) hHeld ?_
     ·(try dsimp only at hSw)
      unfold oS3
      go_simp
     try simp only[oS3,Act.put,zA,zB,zC]
     refine tk 4 oS4 (.slice (some ⟨g,0,none⟩) x.ps.length x.c) rfl (by kernel_rfl) (fun _ _ _ h=>h) (by rfl) (fun w hSw=>?_) hHeld ?_
     ·(try dsimp only at hSw)
      unfold oS4
      go_simp
     try simp only[oS4,Act.put,zA,zB,zC]
     refine tk 5 oS5 (.int .i64 k) rfl (by kernel_rfl) (fun _ _ _ h=>h) (by rfl) (fun w hSw=>?_) hHeld ?_
     ·(try dsimp only at hSw)
      unfold oS5
      go_simp
     try simp only[oS5,Act.put,zA,zB,zC]
     refine tk 6 oS6 (.pointer (some ⟨g,k*3,none⟩)) rfl (by kernel_rfl) (fun _ _ _ h=>h) (by rfl) (fun w hSw=>?_) hHeld ?_
     ·(try dsimp only at hSw)
      unfold oS6
      go_simp
     try simp only[oS6,Act.put,zA,zB,zC]
     refine tk 7 oS7 (.pointer (some ⟨g,k*3,none⟩)) rfl (by kernel_rfl) (fun _ _ _ h=>h) (by rfl) (fun w hSw=>?_) hHeld ?_
     ·(try dsimp only at hSw)
      unfold oS7
      go_simp
     try simp only[oS7,Act.put,zA,zB,zC]
     refine tk 8 oS8 (.int .i64 z0) rfl (by kernel_rfl) (fun _ _ _ h=>h) (by rfl) (fun w hSw=>?_) hHeld ?_
     ·(try dsimp only at hSw)
      unfold oS8
      go_simp
     try simp only[oS8,Act.put,zA,zB,zC]
     refine tk 9 oS9 (.pointer (some ⟨w.heap.size+1,0,none⟩)) rfl (by kernel_rfl) (fun _ _ _ h=>h) (by rfl) (fun w hSw=>?_) hHeld ?_
     ·(try dsimp only at hSw)
      unfold oS9
      go_simp
     try simp only[oS9,Act.put,zA,zB,zC]
     refine tk 10 oS10 (.int .i64 f0) rfl (by kernel_rfl) (fun _ _ _ h=>h) (by rfl) (fun w hSw=>?_) hHeld ?_
     ·(try dsimp only at hSw)
      unfold oS10
      go_simp
     try simp only[oS10,Act.put,zA,zB,zC]
     refine tk 11 oS11 (.bool false) rfl (by kernel_rfl) (fun _ _ _ h=>h) (by rfl) (fun w hSw=>?_) hHeld ?_
     ·(try dsimp only at hSw)
      unfold oS11
      go_simp
     try simp only[oS11,Act.put,zA,zB,zC]
     refine tk 12 oS12 (.bool false) rfl (by kernel_rfl) (fun _ _ _ h=>h) (by rfl) (fun w hSw=>?_) hHeld ?_
     ·(try dsimp only at hSw)
      unfold oS12
      go_simp
     try simp only[oS12,Act.put,zA,zB,zC]
     refine wpAnyH_done (by kernel_rfl) ?_ _
     have PV:=zh (zu HPt).drew
     go_wp2_with fail
     generalize wr.drew=v1 at *
     have NX:=zh (show putN x.ps (f0,f1,f2) (k+1)=(L++[(z0,z1,z2)],false) from by rw[putN_succ (zu HP),zu EP];simp[PBV,qe,QF])
     have hq:(z0 !=f0)=true:=by simp[qe]
     clear qe
     have u2c:=(kcell (zu PV).gr 1 wl0 (by omega)).trans (zu HC)
     have u20:=(kcell (zu PV).gr (k*3) lg gn).trans (zu D0)
     have u21:=(kcell (zu PV).gr (k*3+1) lg gn).trans (zu D1)
     have u22:=(kcell (zu PV).gr (k*3+2) lg gn).trans (zu D2)
     have u2f:=(kcell (zu PV).gr 0 wl1 (by omega)).trans (zu F0)
     have u2g:=(kcell (zu PV).gr 1 wl1 (by omega)).trans (zu F1)
     have u2h:=(kcell (zu PV).gr 2 wl1 (by omega)).trans (zu F2)
     have u2s:=(zu PV).gr.size
     have K2:v1.cell? ⟨w.heap.size,1,none⟩=some (.slice (some ⟨g,0,none⟩) x.ps.length x.c)∧v1.cell? ⟨g,k*3,none⟩=some (.int .i64 z0)∧v1.cell? ⟨w.heap.size+1,0,none⟩=some (.int .i64 f0):=⟨u2c,u20,u2f⟩
     refine wp_region_held_drew (S:=(fun w'=>w'.cell? ⟨w.heap.size,1,none⟩=some (.slice (some ⟨g,0,none⟩) x.ps.length x.c)∧w'.cell? ⟨g,k*3,none⟩=some (.int .i64 z0)∧w'.cell? ⟨w.heap.size+1,0,none⟩=some (.int .i64 f0))) (by kernel_rfl) K2 (fun hHeld=>?_)
     refine tk 0 oN0 (.pointer (some ⟨w.heap.size,1,none⟩)) rfl (by kernel_rfl) (fun _ _ _ h=>h) (by rfl) (fun w hSw=>?_) hHeld ?_
     ·(try dsimp only at hSw)
      unfold oN0
      go_simp
     try simp only[oN0,Act.put,zA,zB,zC]
     refine tk 1 oN1 (.slice (some ⟨g,0,none⟩) x.ps.length x.c) rfl (by kernel_rfl) (fun _ _ _ h=>h) (by rfl) (fun w hSw=>?_) hHeld ?_
     ·(try dsimp only at hSw)
      unfold oN1
      go_simp
     try simp only[oN1,Act.put,zA,zB,zC]
     refine tk 2 oN2 (.int .i64 k) rfl (by kernel_rfl) (fun _ _ _ h=>h) (by rfl) (fun w hSw=>?_) hHeld ?_
     ·(try dsimp only at hSw)
      unfold oN2
      go_simp
     try simp only[oN2,Act.put,zA,zB,zC]
     refine tk 3 oN3 (.pointer (some ⟨g,k*3,none⟩)) rfl (by kernel_rfl) (fun _ _ _ h=>h) (by rfl) (fun w hSw=>?_) hHeld ?_
     ·(try dsimp only at hSw)
      unfold oN3
      go_simp
     try simp only[oN3,Act.put,zA,zB,zC]
     refine tk 4 oN4 (.pointer (some ⟨g,k*3,none⟩)) rfl (by kernel_rfl) (fun _ _ _ h=>h) (by rfl) (fun w hSw=>?_) hHeld ?_
     ·(try dsimp only at hSw)
      unfold oN4
      go_simp
     try simp only[oN4,Act.put,zA,zB,zC]
     refine tk 5 oN5 (.int .i64 z0) rfl (by kernel_rfl) (fun _ _ _ h=>h) (by rfl) (fun w hSw=>?_) hHeld ?_
     ·(try dsimp only at hSw)
      unfold oN5
      go_simp
     try simp only[oN5,Act.put,zA,zB,zC]
     refine tk 6 oN6 (.pointer (some ⟨w.heap.size+1,0,none⟩)) rfl (by kernel_rfl) (fun _ _ _ h=>h) (by rfl) (fun w hSw=>?_) hHeld ?_
     ·(try dsimp only at hSw)
      unfold oN6
      go_simp
     try simp only[oN6,Act.put,zA,zB,zC]
     refine tk 7 oN7 (.int .i64 f0) rfl (by kernel_rfl) (fun _ _ _ h=>h) (by rfl) (fun w hSw=>?_) hHeld ?_
     ·(try dsimp only at hSw)
      unfold oN7
      go_simp
     try simp only[oN7,Act.put,zA,zB,zC]
     refine tk 8 oN8 (.bool true) rfl (by kernel_rfl) (fun _ _ _ h=>h) (by rfl) (fun w hSw=>?_) hHeld ?_
     ·(try dsimp only at hSw)
      unfold oN8
      go_simp
     try simp only[oN8,Act.put,zA,zB,zC]
     refine wpAnyH_done (by kernel_rfl) ?_ _
     have PVD:=zh (zu PV).drew
     go_wp2_with fail
     generalize v1.drew=q2 at *
     have u3c:=(kcell (zu PVD).gr 1 wl0 (by omega)).trans (zu HC)
     have u30:=(kcell (zu PVD).gr (k*3) lg gn).trans (zu D0)
     have u31:=(kcell (zu PVD).gr (k*3+1) lg gn).trans (zu D1)
     have u32:=(kcell (zu PVD).gr (k*3+2) lg gn).trans (zu D2)
     have u3f:=(kcell (zu PVD).gr 0 wl1 (by omega)).trans (zu F0)
     have u3g:=(kcell (zu PVD).gr 1 wl1 (by omega)).trans (zu F1)
     have u3h:=(kcell (zu PVD).gr 2 wl1 (by omega)).trans (zu F2)
     have u3s:=(zu PVD).gr.size
     have K0:q2.cell? ⟨w.heap.size,1,none⟩=some (.slice (some ⟨g,0,none⟩) x.ps.length x.c)∧q2.cell? ⟨g,k*3,none⟩=some (.int .i64 z0)∧q2.cell? ⟨g,k*3+1,none⟩=some (.string z1)∧q2.cell? ⟨g,k*3+2,none⟩=some (.string z2):=⟨u3c,u30,u31,u32⟩
     have KB:(q2.drew.alloc (.cells #[.int .i64 z0,.string z1,.string z2] 120)).cell? ⟨w.heap.size,1,none⟩=some (.slice (some ⟨g,0,none⟩) x.ps.length x.c)∧(q2.drew.alloc (.cells #[.int .i64 z0,.string z1,.string z2] 120)).cell? ⟨g,k*3,none⟩=some (.int .i64 z0)∧(q2.drew.alloc (.cells #[.int .i64 z0,.string z1,.string z2] 120)).cell? ⟨g,k*3+1,none⟩=some (.string z1)∧(q2.drew.alloc (.cells #[.int .i64 z0,.string z1,.string z2] 120)).cell? ⟨g,k*3+2,none⟩=some (.string z2):=⟨((one_more q2.drew (.cells #[.int .i64 z0,.string z1,.string z2] 120)).cell (p:=⟨w.heap.size,1,none⟩) (show w.heap.size<q2.heap.size from by omega)).trans u3c,((one_more q2.drew (.cells #[.int .i64 z0,.string z1,.string z2] 120)).cell (p:=⟨g,k*3,none⟩) (show g<q2.heap.size from by omega)).trans u30,((one_more q2.drew (.cells #[.int .i64 z0,.string z1,.string z2] 120)).cell (p:=⟨g,k*3+1,none⟩) (show g<q2.heap.size from by omega)).trans u31,((one_more q2.drew (.cells #[.int .i64 z0,.string z1,.string z2] 120)).cell (p:=⟨g,k*3+2,none⟩) (show g<q2.heap.size from by omega)).trans u32⟩
     have bc:=(zu PVD).bx.c1
     have lo9:=(zu PVD).bx.lt.2
     have bcD:q2.drew.cell? ⟨w.heap.size+1+1+1,1,none⟩=some (.slice a (m) c):=bc
     have bcA:(q2.alloc (.cells #[.int .i64 z0,.string z1,.string z2] 120)).cell? ⟨w.heap.size+1+1+1,1,none⟩=some (.slice a (m) c):=((one_more q2.drew (.cells #[.int .i64 z0,.string z1,.string z2] 120)).cell (p:=⟨w.heap.size+1+1+1,1,none⟩) lo9).trans bc
     refine wp_region_held_drew (S:=(fun w'=>w'.cell? ⟨w.heap.size,1,none⟩=some (.slice (some ⟨g,0,none⟩) x.ps.length x.c)∧w'.cell? ⟨g,k*3,none⟩=some (.int .i64 z0)∧w'.cell? ⟨g,k*3+1,none⟩=some (.string z1)∧w'.cell? ⟨g,k*3+2,none⟩=some (.string z2))) (by kernel_rfl) K0 (fun hHeld=>?_)
     refine tk 0 oT0 (.pointer (some ⟨w.heap.size+1+1+1,1,none⟩)) rfl (by kernel_rfl) (fun _ _ _ h=>h) (by rfl) (fun w hSw=>?_) hHeld ?_
     ·(try dsimp only at hSw)
      unfold oT0
      go_simp
     try simp only[oT0,Act.put,zA,zB,zC]
     refine tk 2 oT2 (.pointer (some ⟨w.heap.size,1,none⟩)) rfl (by kernel_rfl) (fun _ _ _ h=>h) (by rfl) (fun w hSw=>?_) hHeld ?_
     ·(try dsimp only at hSw)
      unfold oT2
      go_simp
     try simp only[oT2,Act.put,zA,zB,zC]
     refine tk 3 oT3 (.slice (some ⟨g,0,none⟩) x.ps.length x.c) rfl (by kernel_rfl) (fun _ _ _ h=>h) (by rfl) (fun w hSw=>?_) hHeld ?_
     ·(try dsimp only at hSw)
      unfold oT3
      go_simp
     try simp only[oT3,Act.put,zA,zB,zC]
     refine tk 4 oT4 (.int .i64 k) rfl (by kernel_rfl) (fun _ _ _ h=>h) (by rfl) (fun w hSw=>?_) hHeld ?_
     ·(try dsimp only at hSw)
      unfold oT4
      go_simp
     try simp only[oT4,Act.put,zA,zB,zC]
     refine tk 5 oT5 (.pointer (some ⟨g,k*3,none⟩)) rfl (by kernel_rfl) (fun _ _ _ h=>h) (by rfl) (fun w hSw=>?_) hHeld ?_
     ·(try dsimp only at hSw)
      unfold oT5
      go_simp
     try simp only[oT5,Act.put,zA,zB,zC]
     refine tk 6 oT6 (.agg #[.int .i64 z0,.string z1,.string z2]) rfl (by kernel_rfl) (fun _ _ _ h=>h) (by rfl) (fun w hSw=>?_) hHeld ?_
     ·(try dsimp only at hSw)
      unfold oT6
      go_simp
     try simp only[oT6,Act.put,zA,zB,zC]
     refine wpAnyH_ready (rs:=[1,7]) (by kernel_rfl) (by simp) ?_
     refine AllReadyH.cons (o:=oT1) rfl (fun K hK=>?_) (AllReadyH.cons (o:=oT7) rfl (fun K hK=>?_) AllReadyH.nil)
     ·unfold oT1
      go_simp
      refine hK.out _ _ K0 (fun hHeld=>?_)
      clear hK K
      try simp only[oT1,Act.put,zA,zB,zC]
      refine wpAnyH_ready (rs:=[7]) (by kernel_rfl) (by simp) ?_
      refine AllReadyH.cons (o:=oT7) rfl (fun K hK=>?_) AllReadyH.nil
      unfold oT7
      go_simp
      refine hK.out _ _ KB (fun hHeld=>?_)
      clear hK K
      try simp only[oT7,Act.put,zA,zB,zC]
      refine wpAnyH_ready (rs:=[8]) (by kernel_rfl) (by simp) ?_
      refine AllReadyH.cons (o:=oT8) rfl (fun K hK=>?_) AllReadyH.nil
      refine step_app (q2.drew.alloc (.cells #[.int .i64 z0,.string z1,.string z2] 120)) (by rfl) _ _ 50 120 (by rfl) (.agg #[.int .i64 0,.string ByteArray.empty,.string ByteArray.empty]) 3 40 Tryz.underlying50 HelpF14.info2 rfl (by decide) (by decide) W.heap.size (.slice a (m) c) (m) (flatF (L)) q2.drew.heap.size [.int .i64 z0,.string z1,.string z2] (by rfl) (by rfl) (row_step (W:=q2.drew) (zu PVD).ow (one_more q2.drew (.cells #[.int .i64 z0,.string z1,.string z2] 120))) rfl (litm q2.drew _ _ _ (by rfl)) (by simp[Value.oneCell']) (by omega) (Nat.le_trans (show W.heap.size≤q2.drew.heap.size from u3s) (by simp)) ?_
      intro g9 c9 u9 o9 gr9
      have BL:=(zu PVD).off
      have PA:=(zu PVD).app (p:=(z0,z1,z2)) hO ((Below.refl _ _).drew.alloc (Nat.le_refl _) (.cells #[.int .i64 z0,.string z1,.string z2] 120)) gr9 o9
      have bx9:=PA.1
      have bc9:=bx9.c1
      have fr9:=bx9.free 1
      have P9:=zh PA.2
      have us9:=gr9.size
      simp at us9
      have KC:u9.cell? ⟨w.heap.size,1,none⟩=some (.slice (some ⟨g,0,none⟩) x.ps.length x.c)∧u9.cell? ⟨g,k*3,none⟩=some (.int .i64 z0)∧u9.cell? ⟨g,k*3+1,none⟩=some (.string z1)∧u9.cell? ⟨g,k*3+2,none⟩=some (.string z2):=⟨gr9.cell KB.1 (fun e=>by have:=BL _ e.symm;simp only at this;omega),gr9.cell KB.2.1 (fun e=>by have:=BL _ e.symm;simp only at this;omega),gr9.cell KB.2.2.1 (fun e=>by have:=BL _ e.symm;simp only at this;omega),gr9.cell KB.2.2.2 (fun e=>by have:=BL _ e.symm;simp only at this;omega)⟩
      have SB:=bc_set1 bx9 (.slice (some ⟨g9,0,none⟩) (m+1) c9)
      have KD:(u9.setCell ⟨w.heap.size+1+1+1,1,none⟩ (.slice (some ⟨g9,0,none⟩) (m+1) c9)).cell? ⟨w.heap.size,1,none⟩=some (.slice (some ⟨g,0,none⟩) x.ps.length x.c)∧(u9.setCell ⟨w.heap.size+1+1+1,1,none⟩ (.slice (some ⟨g9,0,none⟩) (m+1) c9)).cell? ⟨g,k*3,none⟩=some (.int .i64 z0)∧(u9.setCell ⟨w.heap.size+1+1+1,1,none⟩ (.slice (some ⟨g9,0,none⟩) (m+1) c9)).cell? ⟨g,k*3+1,none⟩=some (.string z1)∧(u9.setCell ⟨w.heap.size+1+1+1,1,none⟩ (.slice (some ⟨g9,0,none⟩) (m+1) c9)).cell? ⟨g,k*3+2,none⟩=some (.string z2):=⟨(kcell SB.2 (1) (show w.heap.size<u9.heap.size from by omega) (show w.heap.size≠w.heap.size+1+1+1 from by omega)).trans KC.1,(kcell SB.2 (k*3) (show g<u9.heap.size from by omega) (show g≠w.heap.size+1+1+1 from by omega)).trans KC.2.1,(kcell SB.2 (k*3+1) (show g<u9.heap.size from by omega) (show g≠w.heap.size+1+1+1 from by omega)).trans KC.2.2.1,(kcell SB.2 (k*3+2) (show g<u9.heap.size from by omega) (show g≠w.heap.size+1+1+1 from by omega)).trans KC.2.2.2⟩
      clear o9 gr9 PA SB bx9 BL
      refine hK.out _ _ KC (fun hHeld=>?_)
      clear hK K
      try simp only[oT8,Act.put,zA,zB,zC]
      refine tk 9 oT9 (.pointer (some ⟨w.heap.size+1+1+1,1,none⟩)) rfl (by kernel_rfl) (fun _ _ _ h=>h) (by rfl) (fun w hSw=>?_) hHeld ?_
      ·(try dsimp only at hSw)
       unfold oT9
       go_simp
      try simp only[oT9,Act.put,zA,zB,zC]
      refine wpAnyH_ready (rs:=[10]) (by kernel_rfl) (by simp) ?_
      refine AllReadyH.cons (o:=oT10) rfl (fun K hK=>?_) AllReadyH.nil
      unfold oT10
      go_simp
      refine hK.out _ _ KD (fun hHeld=>?_)
      clear hK K
      try simp only[oT10,Act.put,zA,zB,zC]
      refine wpAnyH_done (by kernel_rfl) ?_ _
      clear K0 KB KC KD bc bcD bcA bc9 fr9
      go_wp2
      go_roundw
      case rel=>exact⟨k+1,m+1,c9,some ⟨g9,0,none⟩,L++[(z0,z1,z2)],false,rfl,by go_num,by omega,by omega,NX,P9⟩
      case measure=>simp[intOf];omega
     ·unfold oT7
      go_simp
      refine hK.out _ _ KB (fun hHeld=>?_)
      clear hK K
      try simp only[oT7,Act.put,zA,zB,zC]
      refine wpAnyH_ready (rs:=[1]) (by kernel_rfl) (by simp) ?_
      refine AllReadyH.cons (o:=oT1) rfl (fun K hK=>?_) AllReadyH.nil
      unfold oT1
      go_simp
      refine hK.out _ _ KB (fun hHeld=>?_)
      clear hK K
      try simp only[oT1,Act.put,zA,zB,zC]
      refine wpAnyH_ready (rs:=[8]) (by kernel_rfl) (by simp) ?_
      refine AllReadyH.cons (o:=oT8) rfl (fun K hK=>?_) AllReadyH.nil
      refine step_app (q2.drew.alloc (.cells #[.int .i64 z0,.string z1,.string z2] 120)) (by rfl) _ _ 50 120 (by rfl) (.agg #[.int .i64 0,.string ByteArray.empty,.string ByteArray.empty]) 3 40 Tryz.underlying50 HelpF14.info2 rfl (by decide) (by decide) W.heap.size (.slice a (m) c) (m) (flatF (L)) q2.drew.heap.size [.int .i64 z0,.string z1,.string z2] (by rfl) (by rfl) (row_step (W:=q2.drew) (zu PVD).ow (one_more q2.drew (.cells #[.int .i64 z0,.string z1,.string z2] 120))) rfl (litm q2.drew _ _ _ (by rfl)) (by simp[Value.oneCell']) (by omega) (Nat.le_trans (show W.heap.size≤q2.drew.heap.size from u3s) (by simp)) ?_
      intro g9 c9 u9 o9 gr9
      have BL:=(zu PVD).off
      have PA:=(zu PVD).app (p:=(z0,z1,z2)) hO ((Below.refl _ _).drew.alloc (Nat.le_refl _) (.cells #[.int .i64 z0,.string z1,.string z2] 120)) gr9 o9
      have bx9:=PA.1
      have bc9:=bx9.c1
      have fr9:=bx9.free 1
      have P9:=zh PA.2
      have us9:=gr9.size
      simp at us9
      have KC:u9.cell? ⟨w.heap.size,1,none⟩=some (.slice (some ⟨g,0,none⟩) x.ps.length x.c)∧u9.cell? ⟨g,k*3,none⟩=some (.int .i64 z0)∧u9.cell? ⟨g,k*3+1,none⟩=some (.string z1)∧u9.cell? ⟨g,k*3+2,none⟩=some (.string z2):=⟨gr9.cell KB.1 (fun e=>by have:=BL _ e.symm;simp only at this;omega),gr9.cell KB.2.1 (fun e=>by have:=BL _ e.symm;simp only at this;omega),gr9.cell KB.2.2.1 (fun e=>by have:=BL _ e.symm;simp only at this;omega),gr9.cell KB.2.2.2 (fun e=>by have:=BL _ e.symm;simp only at this;omega)⟩
      have SB:=bc_set1 bx9 (.slice (some ⟨g9,0,none⟩) (m+1) c9)
      have KD:(u9.setCell ⟨w.heap.size+1+1+1,1,none⟩ (.slice (some ⟨g9,0,none⟩) (m+1) c9)).cell? ⟨w.heap.size,1,none⟩=some (.slice (some ⟨g,0,none⟩) x.ps.length x.c)∧(u9.setCell ⟨w.heap.size+1+1+1,1,none⟩ (.slice (some ⟨g9,0,none⟩) (m+1) c9)).cell? ⟨g,k*3,none⟩=some (.int .i64 z0)∧(u9.setCell ⟨w.heap.size+1+1+1,1,none⟩ (.slice (some ⟨g9,0,none⟩) (m+1) c9)).cell? ⟨g,k*3+1,none⟩=some (.string z1)∧(u9.setCell ⟨w.heap.size+1+1+1,1,none⟩ (.slice (some ⟨g9,0,none⟩) (m+1) c9)).cell? ⟨g,k*3+2,none⟩=some (.string z2):=⟨(kcell SB.2 (1) (show w.heap.size<u9.heap.size from by omega) (show w.heap.size≠w.heap.size+1+1+1 from by omega)).trans KC.1,(kcell SB.2 (k*3) (show g<u9.heap.size from by omega) (show g≠w.heap.size+1+1+1 from by omega)).trans KC.2.1,(kcell SB.2 (k*3+1) (show g<u9.heap.size from by omega) (show g≠w.heap.size+1+1+1 from by omega)).trans KC.2.2.1,(kcell SB.2 (k*3+2) (show g<u9.heap.size from by omega) (show g≠w.heap.size+1+1+1 from by omega)).trans KC.2.2.2⟩
      clear o9 gr9 PA SB bx9 BL
      refine hK.out _ _ KC (fun hHeld=>?_)
      clear hK K
      try simp only[oT8,Act.put,zA,zB,zC]
      refine tk 9 oT9 (.pointer (some ⟨w.heap.size+1+1+1,1,none⟩)) rfl (by kernel_rfl) (fun _ _ _ h=>h) (by rfl) (fun w hSw=>?_) hHeld ?_
      ·(try dsimp only at hSw)
       unfold oT9
       go_simp
      try simp only[oT9,Act.put,zA,zB,zC]
      refine wpAnyH_ready (rs:=[10]) (by kernel_rfl) (by simp) ?_
      refine AllReadyH.cons (o:=oT10) rfl (fun K hK=>?_) AllReadyH.nil
      unfold oT10
      go_simp
      refine hK.out _ _ KD (fun hHeld=>?_)
      clear hK K
      try simp only[oT10,Act.put,zA,zB,zC]
      refine wpAnyH_done (by kernel_rfl) ?_ _
      clear K0 KB KC KD bc bcD bcA bc9 fr9
      go_wp2
      go_roundw
      case rel=>exact⟨k+1,m+1,c9,some ⟨g9,0,none⟩,L++[(z0,z1,z2)],false,rfl,by go_num,by omega,by omega,NX,P9⟩
      case measure=>simp[intOf];omega
   ·have PBV:True:=trivial
    have QF:True:=trivial
    by_cases qe:z0=f0
    ·have K6:wr.cell? ⟨w.heap.size,1,none⟩=some (.slice (some ⟨g,0,none⟩) x.ps.length x.c)∧wr.cell? ⟨g,k*3,none⟩=some (.int .i64 z0)∧wr.cell? ⟨w.heap.size+1,0,none⟩=some (.int .i64 f0):=⟨u1c,u10,u1f⟩
     go_wp2_with fail
     refine wp_region_held_drew (S:=(fun w'=>w'.cell? ⟨w.heap.size,1,none⟩=some (.slice (some ⟨g,0,none⟩) x.ps.length x.c)∧w'.cell? ⟨g,k*3,none⟩=some (.int .i64 z0)∧w'.cell? ⟨w.heap.size+1,0,none⟩=some (.int .i64 f0))) (by kernel_rfl) K6 (fun hHeld=>?_)
     refine tk 0 oS0 (.bool true) rfl (by kernel_rfl) (fun _ _ _ h=>h) (by rfl) (fun w hSw=>?_) hHeld ?_
     ·(try dsimp only at hSw)
      unfold oS0
      go_simp
     try simp only[oS0,Act.put,zA,zB,zC]
     refine tk 1 oS1 (.bool false) rfl (by kernel_rfl) (fun _ _ _ h=>h) (by rfl) (fun w hSw=>?_) hHeld ?_
     ·(try dsimp only at hSw)
      unfold oS1
      go_simp
     try simp only[oS1,Act.put,zA,zB,zC]
     refine tk 2 oS2 (.bool false) rfl (by kernel_rfl) (fun _ _ _ h=>h) (by rfl) (fun w hSw=>?_) hHeld ?_
     ·(try dsimp only at hSw)
      unfold oS2
      go_simp
     try simp only[oS2,Act.put,zA,zB,zC]
     refine sk 3 oS3 rfl (by kernel_rfl) (fun _ _ _ h=>h) (by rfl) hHeld ?_
     try simp only[oS3,Act.put,zA,zB,zC]
     refine sk 4 oS4 rfl (by kernel_rfl) (fun _ _ _ h=>h) (by rfl) hHeld ?_
     try simp only[oS4,Act.put,zA,zB,zC]
     refine sk 5 oS5 rfl (by kernel_rfl) (fun _ _ _ h=>h) (by rfl) hHeld ?_
     try simp only[oS5,Act.put,zA,zB,zC]
     refine sk 6 oS6 rfl (by kernel_rfl) (fun _ _ _ h=>h) (by rfl) hHeld ?_
     try simp only[oS6,Act.put,zA,zB,zC]
     refine sk 7 oS7 rfl (by kernel_rfl) (fun _ _ _ h=>h) (by rfl) hHeld ?_
     try simp only[oS7,Act.put,zA,zB,zC]
     refine sk 8 oS8 rfl (by kernel_rfl) (fun _ _ _ h=>h) (by rfl) hHeld ?_
     try simp only[oS8,Act.put,zA,zB,zC]
     refine sk 9 oS9 rfl (by kernel_rfl) (fun _ _ _ h=>h) (by rfl) hHeld ?_
     try simp only[oS9,Act.put,zA,zB,zC]
     refine sk 10 oS10 rfl (by kernel_rfl) (fun _ _ _ h=>h) (by rfl) hHeld ?_
     try simp only[oS10,Act.put,zA,zB,zC]
     refine sk 11 oS11 rfl (by kernel_rfl) (fun _ _ _ h=>h) (by rfl) hHeld ?_
     try simp only[oS11,Act.put,zA,zB,zC]
     refine tk 12 oS12 (.bool false) rfl (by kernel_rfl) (fun _ _ _ h=>h) (by rfl) (fun w hSw=>?_) hHeld ?_
     ·(try dsimp only at hSw)
      unfold oS12
      go_simp
     try simp only[oS12,Act.put,zA,zB,zC]
     refine wpAnyH_done (by kernel_rfl) ?_ _
     have PV:=zh (zu HPt).drew
     go_wp2_with fail
     generalize wr.drew=v1 at *
     have NX:=zh (show putN x.ps (f0,f1,f2) (k+1)=(L,true) from by rw[putN_succ (zu HP),zu EP];simp[PBV,qe,QF])
     have hq:(z0 !=f0)=false:=by simp[qe]
     clear qe
     have u2c:=(kcell (zu PV).gr 1 wl0 (by omega)).trans (zu HC)
     have u20:=(kcell (zu PV).gr (k*3) lg gn).trans (zu D0)
     have u21:=(kcell (zu PV).gr (k*3+1) lg gn).trans (zu D1)
     have u22:=(kcell (zu PV).gr (k*3+2) lg gn).trans (zu D2)
     have u2f:=(kcell (zu PV).gr 0 wl1 (by omega)).trans (zu F0)
     have u2g:=(kcell (zu PV).gr 1 wl1 (by omega)).trans (zu F1)
     have u2h:=(kcell (zu PV).gr 2 wl1 (by omega)).trans (zu F2)
     have u2s:=(zu PV).gr.size
     have K2:v1.cell? ⟨w.heap.size,1,none⟩=some (.slice (some ⟨g,0,none⟩) x.ps.length x.c)∧v1.cell? ⟨g,k*3,none⟩=some (.int .i64 z0)∧v1.cell? ⟨w.heap.size+1,0,none⟩=some (.int .i64 f0):=⟨u2c,u20,u2f⟩
     refine wp_region_held_drew (S:=(fun w'=>w'.cell? ⟨w.heap.size,1,none⟩=some (.slice (some ⟨g,0,none⟩) x.ps.length x.c)∧w'.cell? ⟨g,k*3,none⟩=some (.int .i64 z0)∧w'.cell? ⟨w.heap.size+1,0,none⟩=some (.int .i64 f0))) (by kernel_rfl) K2 (fun hHeld=>?_)
     refine tk 0 oN0 (.pointer (some ⟨w.heap.size,1,none⟩)) rfl (by kernel_rfl) (fun _ _ _ h=>h) (by rfl) (fun w hSw=>?_) hHeld ?_
     ·(try dsimp only at hSw)
      unfold oN0
      go_simp
     try simp only[oN0,Act.put,zA,zB,zC]
     refine tk 1 oN1 (.slice (some ⟨g,0,none⟩) x.ps.length x.c) rfl (by kernel_rfl) (fun _ _ _ h=>h) (by rfl) (fun w hSw=>?_) hHeld ?_
     ·(try dsimp only at hSw)
      unfold oN1
      go_simp
     try simp only[oN1,Act.put,zA,zB,zC]
     refine tk 2 oN2 (.int .i64 k) rfl (by kernel_rfl) (fun _ _ _ h=>h) (by rfl) (fun w hSw=>?_) hHeld ?_
     ·(try dsimp only at hSw)
      unfold oN2
      go_simp
     try simp only[oN2,Act.put,zA,zB,zC]
     refine tk 3 oN3 (.pointer (some ⟨g,k*3,none⟩)) rfl (by kernel_rfl) (fun _ _ _ h=>h) (by rfl) (fun w hSw=>?_) hHeld ?_
     ·(try dsimp only at hSw)
      unfold oN3
      go_simp
     try simp only[oN3,Act.put,zA,zB,zC]
     refine tk 4 oN4 (.pointer (some ⟨g,k*3,none⟩)) rfl (by kernel_rfl) (fun _ _ _ h=>h) (by rfl) (fun w hSw=>?_) hHeld ?_
     ·(try dsimp only at hSw)
      unfold oN4
      go_simp
     try simp only[oN4,Act.put,zA,zB,zC]
     refine tk 5 oN5 (.int .i64 z0) rfl (by kernel_rfl) (fun _ _ _ h=>h) (by rfl) (fun w hSw=>?_) hHeld ?_
     ·(try dsimp only at hSw)
      unfold oN5
      go_simp
     try simp only[oN5,Act.put,zA,zB,zC]
     refine tk 6 oN6 (.pointer (some ⟨w.heap.size+1,0,none⟩)) rfl (by kernel_rfl) (fun _ _ _ h=>h) (by rfl) (fun w hSw=>?_) hHeld ?_
     ·(try dsimp only at hSw)
      unfold oN6
      go_simp
     try simp only[oN6,Act.put,zA,zB,zC]
     refine tk 7 oN7 (.int .i64 f0) rfl (by kernel_rfl) (fun _ _ _ h=>h) (by rfl) (fun w hSw=>?_) hHeld ?_
     ·(try dsimp only at hSw)
      unfold oN7
      go_simp
     try simp only[oN7,Act.put,zA,zB,zC]
     refine tk 8 oN8 (.bool false) rfl (by kernel_rfl) (fun _ _ _ h=>h) (by rfl) (fun w hSw=>?_) hHeld ?_
     ·(try dsimp only at hSw)
      unfold oN8
      go_simp
     try simp only[oN8,Act.put,zA,zB,zC]
     refine wpAnyH_done (by kernel_rfl) ?_ _
     have PVD:=zh (zu PV).drew
     go_wp2
     go_roundw
     case rel=>exact⟨k+1,m,c,a,L,true,rfl,by go_num,by omega,by omega,NX,PVD⟩
     case measure=>simp[intOf];omega
    ·have K6:wr.cell? ⟨w.heap.size,1,none⟩=some (.slice (some ⟨g,0,none⟩) x.ps.length x.c)∧wr.cell? ⟨g,k*3,none⟩=some (.int .i64 z0)∧wr.cell? ⟨w.heap.size+1,0,none⟩=some (.int .i64 f0):=⟨u1c,u10,u1f⟩
     go_wp2_with fail
     refine wp_region_held_drew (S:=(fun w'=>w'.cell? ⟨w.heap.size,1,none⟩=some (.slice (some ⟨g,0,none⟩) x.ps.length x.c)∧w'.cell? ⟨g,k*3,none⟩=some (.int .i64 z0)∧w'.cell? ⟨w.heap.size+1,0,none⟩=some (.int .i64 f0))) (by kernel_rfl) K6 (fun hHeld=>?_)
     refine tk 0 oS0 (.bool true) rfl (by kernel_rfl) (fun _ _ _ h=>h) (by rfl) (fun w hSw=>?_) hHeld ?_
     ·(try dsimp only at hSw)
      unfold oS0
      go_simp
     try simp only[oS0,Act.put,zA,zB,zC]
     refine tk 1 oS1 (.bool false) rfl (by kernel_rfl) (fun _ _ _ h=>h) (by rfl) (fun w hSw=>?_) hHeld ?_
     ·(try dsimp only at hSw)
      unfold oS1
      go_simp
     try simp only[oS1,Act.put,zA,zB,zC]
     refine tk 2 oS2 (.bool false) rfl (by kernel_rfl) (fun _ _ _ h=>h) (by rfl) (fun w hSw=>?_) hHeld ?_
     ·(try dsimp only at hSw)
      unfold oS2
      go_simp
     try simp only[oS2,Act.put,zA,zB,zC]
     refine sk 3 oS3 rfl (by kernel_rfl) (fun _ _ _ h=>h) (by rfl) hHeld ?_
     try simp only[oS3,Act.put,zA,zB,zC]
     refine sk 4 oS4 rfl (by kernel_rfl) (fun _ _ _ h=>h) (by rfl) hHeld ?_
     try simp only[oS4,Act.put,zA,zB,zC]
     refine sk 5 oS5 rfl (by kernel_rfl) (fun _ _ _ h=>h) (by rfl) hHeld ?_
     try simp only[oS5,Act.put,zA,zB,zC]
     refine sk 6 oS6 rfl (by kernel_rfl) (fun _ _ _ h=>h) (by rfl) hHeld ?_
     try simp only[oS6,Act.put,zA,zB,zC]
     refine sk 7 oS7 rfl (by kernel_rfl) (fun _ _ _ h=>h) (by rfl) hHeld ?_
     try simp only[oS7,Act.put,zA,zB,zC]
     refine sk 8 oS8 rfl (by kernel_rfl) (fun _ _ _ h=>h) (by rfl) hHeld ?_
     try simp only[oS8,Act.put,zA,zB,zC]
     refine sk 9 oS9 rfl (by kernel_rfl) (fun _ _ _ h=>h) (by rfl) hHeld ?_
     try simp only[oS9,Act.put,zA,zB,zC]
     refine sk 10 oS10 rfl (by kernel_rfl) (fun _ _ _ h=>h) (by rfl) hHeld ?_
     try simp only[oS10,Act.put,zA,zB,zC]
     refine sk 11 oS11 rfl (by kernel_rfl) (fun _ _ _ h=>h) (by rfl) hHeld ?_
     try simp only[oS11,Act.put,zA,zB,zC]
     refine tk 12 oS12 (.bool false) rfl (by kernel_rfl) (fun _ _ _ h=>h) (by rfl) (fun w hSw=>?_) hHeld ?_
     ·(try dsimp only at hSw)
      unfold oS12
      go_simp
     try simp only[oS12,Act.put,zA,zB,zC]
     refine wpAnyH_done (by kernel_rfl) ?_ _
     have PV:=zh (zu HPt).drew
     go_wp2_with fail
     generalize wr.drew=v1 at *
     have NX:=zh (show putN x.ps (f0,f1,f2) (k+1)=(L++[(z0,z1,z2)],true) from by rw[putN_succ (zu HP),zu EP];simp[PBV,qe,QF])
     have hq:(z0 !=f0)=true:=by simp[qe]
     clear qe
     have u2c:=(kcell (zu PV).gr 1 wl0 (by omega)).trans (zu HC)
     have u20:=(kcell (zu PV).gr (k*3) lg gn).trans (zu D0)
     have u21:=(kcell (zu PV).gr (k*3+1) lg gn).trans (zu D1)
     have u22:=(kcell (zu PV).gr (k*3+2) lg gn).trans (zu D2)
     have u2f:=(kcell (zu PV).gr 0 wl1 (by omega)).trans (zu F0)
     have u2g:=(kcell (zu PV).gr 1 wl1 (by omega)).trans (zu F1)
     have u2h:=(kcell (zu PV).gr 2 wl1 (by omega)).trans (zu F2)
     have u2s:=(zu PV).gr.size
     have K2:v1.cell? ⟨w.heap.size,1,none⟩=some (.slice (some ⟨g,0,none⟩) x.ps.length x.c)∧v1.cell? ⟨g,k*3,none⟩=some (.int .i64 z0)∧v1.cell? ⟨w.heap.size+1,0,none⟩=some (.int .i64 f0):=⟨u2c,u20,u2f⟩
     refine wp_region_held_drew (S:=(fun w'=>w'.cell? ⟨w.heap.size,1,none⟩=some (.slice (some ⟨g,0,none⟩) x.ps.length x.c)∧w'.cell? ⟨g,k*3,none⟩=some (.int .i64 z0)∧w'.cell? ⟨w.heap.size+1,0,none⟩=some (.int .i64 f0))) (by kernel_rfl) K2 (fun hHeld=>?_)
     refine tk 0 oN0 (.pointer (some ⟨w.heap.size,1,none⟩)) rfl (by kernel_rfl) (fun _ _ _ h=>h) (by rfl) (fun w hSw=>?_) hHeld ?_
     ·(try dsimp only at hSw)
      unfold oN0
      go_simp
     try simp only[oN0,Act.put,zA,zB,zC]
     refine tk 1 oN1 (.slice (some ⟨g,0,none⟩) x.ps.length x.c) rfl (by kernel_rfl) (fun _ _ _ h=>h) (by rfl) (fun w hSw=>?_) hHeld ?_
     ·(try dsimp only at hSw)
      unfold oN1
      go_simp
     try simp only[oN1,Act.put,zA,zB,zC]
     refine tk 2 oN2 (.int .i64 k) rfl (by kernel_rfl) (fun _ _ _ h=>h) (by rfl) (fun w hSw=>?_) hHeld ?_
     ·(try dsimp only at hSw)
      unfold oN2
      go_simp
     try simp only[oN2,Act.put,zA,zB,zC]
     refine tk 3 oN3 (.pointer (some ⟨g,k*3,none⟩)) rfl (by kernel_rfl) (fun _ _ _ h=>h) (by rfl) (fun w hSw=>?_) hHeld ?_
     ·(try dsimp only at hSw)
      unfold oN3
      go_simp
     try simp only[oN3,Act.put,zA,zB,zC]
     refine tk 4 oN4 (.pointer (some ⟨g,k*3,none⟩)) rfl (by kernel_rfl) (fun _ _ _ h=>h) (by rfl) (fun w hSw=>?_) hHeld ?_
     ·(try dsimp only at hSw)
      unfold oN4
      go_simp
     try simp only[oN4,Act.put,zA,zB,zC]
     refine tk 5 oN5 (.int .i64 z0) rfl (by kernel_rfl) (fun _ _ _ h=>h) (by rfl) (fun w hSw=>?_) hHeld ?_
     ·(try dsimp only at hSw)
      unfold oN5
      go_simp
     try simp only[oN5,Act.put,zA,zB,zC]
     refine tk 6 oN6 (.pointer (some ⟨w.heap.size+1,0,none⟩)) rfl (by kernel_rfl) (fun _ _ _ h=>h) (by rfl) (fun w hSw=>?_) hHeld ?_
     ·(try dsimp only at hSw)
      unfold oN6
      go_simp
     try simp only[oN6,Act.put,zA,zB,zC]
     refine tk 7 oN7 (.int .i64 f0) rfl (by kernel_rfl) (fun _ _ _ h=>h) (by rfl) (fun w hSw=>?_) hHeld ?_
     ·(try dsimp only at hSw)
      unfold oN7
      go_simp
     try simp only[oN7,Act.put,zA,zB,zC]
     refine tk 8 oN8 (.bool true) rfl (by kernel_rfl) (fun _ _ _ h=>h) (by rfl) (fun w hSw=>?_) hHeld ?_
     ·(try dsimp only at hSw)
      unfold oN8
      go_simp
     try simp only[oN8,Act.put,zA,zB,zC]
     refine wpAnyH_done (by kernel_rfl) ?_ _
     have PVD:=zh (zu PV).drew
     go_wp2_with fail
     generalize v1.drew=q2 at *
     have u3c:=(kcell (zu PVD).gr 1 wl0 (by omega)).trans (zu HC)
     have u30:=(kcell (zu PVD).gr (k*3) lg gn).trans (zu D0)
     have u31:=(kcell (zu PVD).gr (k*3+1) lg gn).trans (zu D1)
     have u32:=(kcell (zu PVD).gr (k*3+2) lg gn).trans (zu D2)
     have u3f:=(kcell (zu PVD).gr 0 wl1 (by omega)).trans (zu F0)
     have u3g:=(kcell (zu PVD).gr 1 wl1 (by omega)).trans (zu F1)
     have u3h:=(kcell (zu PVD).gr 2 wl1 (by omega)).trans (zu F2)
     have u3s:=(zu PVD).gr.size
     have K0:q2.cell? ⟨w.heap.size,1,none⟩=some (.slice (some ⟨g,0,none⟩) x.ps.length x.c)∧q2.cell? ⟨g,k*3,none⟩=some (.int .i64 z0)∧q2.cell? ⟨g,k*3+1,none⟩=some (.string z1)∧q2.cell? ⟨g,k*3+2,none⟩=some (.string z2):=⟨u3c,u30,u31,u32⟩
     have KB:(q2.drew.alloc (.cells #[.int .i64 z0,.string z1,.string z2] 120)).cell? ⟨w.heap.size,1,none⟩=some (.slice (some ⟨g,0,none⟩) x.ps.length x.c)∧(q2.drew.alloc (.cells #[.int .i64 z0,.string z1,.string z2] 120)).cell? ⟨g,k*3,none⟩=some (.int .i64 z0)∧(q2.drew.alloc (.cells #[.int .i64 z0,.string z1,.string z2] 120)).cell? ⟨g,k*3+1,none⟩=some (.string z1)∧(q2.drew.alloc (.cells #[.int .i64 z0,.string z1,.string z2] 120)).cell? ⟨g,k*3+2,none⟩=some (.string z2):=⟨((one_more q2.drew (.cells #[.int .i64 z0,.string z1,.string z2] 120)).cell (p:=⟨w.heap.size,1,none⟩) (show w.heap.size<q2.heap.size from by omega)).trans u3c,((one_more q2.drew (.cells #[.int .i64 z0,.string z1,.string z2] 120)).cell (p:=⟨g,k*3,none⟩) (show g<q2.heap.size from by omega)).trans u30,((one_more q2.drew (.cells #[.int .i64 z0,.string z1,.string z2] 120)).cell (p:=⟨g,k*3+1,none⟩) (show g<q2.heap.size from by omega)).trans u31,((one_more q2.drew (.cells #[.int .i64 z0,.string z1,.string z2] 120)).cell (p:=⟨g,k*3+2,none⟩) (show g<q2.heap.size from by omega)).trans u32⟩
     have bc:=(zu PVD).bx.c1
     have lo9:=(zu PVD).bx.lt.2
     have bcD:q2.drew.cell? ⟨w.heap.size+1+1+1,1,none⟩=some (.slice a (m) c):=bc
     have bcA:(q2.alloc (.cells #[.int .i64 z0,.string z1,.string z2] 120)).cell? ⟨w.heap.size+1+1+1,1,none⟩=some (.slice a (m) c):=((one_more q2.drew (.cells #[.int .i64 z0,.string z1,.string z2] 120)).cell (p:=⟨w.heap.size+1+1+1,1,none⟩) lo9).trans bc
     refine wp_region_held_drew (S:=(fun w'=>w'.cell? ⟨w.heap.size,1,none⟩=some (.slice (some ⟨g,0,none⟩) x.ps.length x.c)∧w'.cell? ⟨g,k*3,none⟩=some (.int .i64 z0)∧w'.cell? ⟨g,k*3+1,none⟩=some (.string z1)∧w'.cell? ⟨g,k*3+2,none⟩=some (.string z2))) (by kernel_rfl) K0 (fun hHeld=>?_)
     refine tk 0 oT0 (.pointer (some ⟨w.heap.size+1+1+1,1,none⟩)) rfl (by kernel_rfl) (fun _ _ _ h=>h) (by rfl) (fun w hSw=>?_) hHeld ?_
     ·(try dsimp only at hSw)
      unfold oT0
      go_simp
     try simp only[oT0,Act.put,zA,zB,zC]
     refine tk 2 oT2 (.pointer (some ⟨w.heap.size,1,none⟩)) rfl (by kernel_rfl) (fun _ _ _ h=>h) (by rfl) (fun w hSw=>?_) hHeld ?_
     ·(try dsimp only at hSw)
      unfold oT2
      go_simp
     try simp only[oT2,Act.put,zA,zB,zC]
     refine tk 3 oT3 (.slice (some ⟨g,0,none⟩) x.ps.length x.c) rfl (by kernel_rfl) (fun _ _ _ h=>h) (by rfl) (fun w hSw=>?_) hHeld ?_
     ·(try dsimp only at hSw)
      unfold oT3
      go_simp
     try simp only[oT3,Act.put,zA,zB,zC]
     refine tk 4 oT4 (.int .i64 k) rfl (by kernel_rfl) (fun _ _ _ h=>h) (by rfl) (fun w hSw=>?_) hHeld ?_
     ·(try dsimp only at hSw)
      unfold oT4
      go_simp
     try simp only[oT4,Act.put,zA,zB,zC]
     refine tk 5 oT5 (.pointer (some ⟨g,k*3,none⟩)) rfl (by kernel_rfl) (fun _ _ _ h=>h) (by rfl) (fun w hSw=>?_) hHeld ?_
     ·(try dsimp only at hSw)
      unfold oT5
      go_simp
     try simp only[oT5,Act.put,zA,zB,zC]
     refine tk 6 oT6 (.agg #[.int .i64 z0,.string z1,.string z2]) rfl (by kernel_rfl) (fun _ _ _ h=>h) (by rfl) (fun w hSw=>?_) hHeld ?_
     ·(try dsimp only at hSw)
      unfold oT6
      go_simp
     try simp only[oT6,Act.put,zA,zB,zC]
     refine wpAnyH_ready (rs:=[1,7]) (by kernel_rfl) (by simp) ?_
     refine AllReadyH.cons (o:=oT1) rfl (fun K hK=>?_) (AllReadyH.cons (o:=oT7) rfl (fun K hK=>?_) AllReadyH.nil)
     ·unfold oT1
      go_simp
      refine hK.out _ _ K0 (fun hHeld=>?_)
      clear hK K
      try simp only[oT1,Act.put,zA,zB,zC]
      refine wpAnyH_ready (rs:=[7]) (by kernel_rfl) (by simp) ?_
      refine AllReadyH.cons (o:=oT7) rfl (fun K hK=>?_) AllReadyH.nil
      unfold oT7
      go_simp
      refine hK.out _ _ KB (fun hHeld=>?_)
      clear hK K
      try simp only[oT7,Act.put,zA,zB,zC]
      refine wpAnyH_ready (rs:=[8]) (by kernel_rfl) (by simp) ?_
      refine AllReadyH.cons (o:=oT8) rfl (fun K hK=>?_) AllReadyH.nil
      refine step_app (q2.drew.alloc (.cells #[.int .i64 z0,.string z1,.string z2] 120)) (by rfl) _ _ 50 120 (by rfl) (.agg #[.int .i64 0,.string ByteArray.empty,.string ByteArray.empty]) 3 40 Tryz.underlying50 HelpF14.info2 rfl (by decide) (by decide) W.heap.size (.slice a (m) c) (m) (flatF (L)) q2.drew.heap.size [.int .i64 z0,.string z1,.string z2] (by rfl) (by rfl) (row_step (W:=q2.drew) (zu PVD).ow (one_more q2.drew (.cells #[.int .i64 z0,.string z1,.string z2] 120))) rfl (litm q2.drew _ _ _ (by rfl)) (by simp[Value.oneCell']) (by omega) (Nat.le_trans (show W.heap.size≤q2.drew.heap.size from u3s) (by simp)) ?_
      intro g9 c9 u9 o9 gr9
      have BL:=(zu PVD).off
      have PA:=(zu PVD).app (p:=(z0,z1,z2)) hO ((Below.refl _ _).drew.alloc (Nat.le_refl _) (.cells #[.int .i64 z0,.string z1,.string z2] 120)) gr9 o9
      have bx9:=PA.1
      have bc9:=bx9.c1
      have fr9:=bx9.free 1
      have P9:=zh PA.2
      have us9:=gr9.size
      simp at us9
      have KC:u9.cell? ⟨w.heap.size,1,none⟩=some (.slice (some ⟨g,0,none⟩) x.ps.length x.c)∧u9.cell? ⟨g,k*3,none⟩=some (.int .i64 z0)∧u9.cell? ⟨g,k*3+1,none⟩=some (.string z1)∧u9.cell? ⟨g,k*3+2,none⟩=some (.string z2):=⟨gr9.cell KB.1 (fun e=>by have:=BL _ e.symm;simp only at this;omega),gr9.cell KB.2.1 (fun e=>by have:=BL _ e.symm;simp only at this;omega),gr9.cell KB.2.2.1 (fun e=>by have:=BL _ e.symm;simp only at this;omega),gr9.cell KB.2.2.2 (fun e=>by have:=BL _ e.symm;simp only at this;omega)⟩
      have SB:=bc_set1 bx9 (.slice (some ⟨g9,0,none⟩) (m+1) c9)
      have KD:(u9.setCell ⟨w.heap.size+1+1+1,1,none⟩ (.slice (some ⟨g9,0,none⟩) (m+1) c9)).cell? ⟨w.heap.size,1,none⟩=some (.slice (some ⟨g,0,none⟩) x.ps.length x.c)∧(u9.setCell ⟨w.heap.size+1+1+1,1,none⟩ (.slice (some ⟨g9,0,none⟩) (m+1) c9)).cell? ⟨g,k*3,none⟩=some (.int .i64 z0)∧(u9.setCell ⟨w.heap.size+1+1+1,1,none⟩ (.slice (some ⟨g9,0,none⟩) (m+1) c9)).cell? ⟨g,k*3+1,none⟩=some (.string z1)∧(u9.setCell ⟨w.heap.size+1+1+1,1,none⟩ (.slice (some ⟨g9,0,none⟩) (m+1) c9)).cell? ⟨g,k*3+2,none⟩=some (.string z2):=⟨(kcell SB.2 (1) (show w.heap.size<u9.heap.size from by omega) (show w.heap.size≠w.heap.size+1+1+1 from by omega)).trans KC.1,(kcell SB.2 (k*3) (show g<u9.heap.size from by omega) (show g≠w.heap.size+1+1+1 from by omega)).trans KC.2.1,(kcell SB.2 (k*3+1) (show g<u9.heap.size from by omega) (show g≠w.heap.size+1+1+1 from by omega)).trans KC.2.2.1,(kcell SB.2 (k*3+2) (show g<u9.heap.size from by omega) (show g≠w.heap.size+1+1+1 from by omega)).trans KC.2.2.2⟩
      clear o9 gr9 PA SB bx9 BL
      refine hK.out _ _ KC (fun hHeld=>?_)
      clear hK K
      try simp only[oT8,Act.put,zA,zB,zC]
      refine tk 9 oT9 (.pointer (some ⟨w.heap.size+1+1+1,1,none⟩)) rfl (by kernel_rfl) (fun _ _ _ h=>h) (by rfl) (fun w hSw=>?_) hHeld ?_
      ·(try dsimp only at hSw)
       unfold oT9
       go_simp
      try simp only[oT9,Act.put,zA,zB,zC]
      refine wpAnyH_ready (rs:=[10]) (by kernel_rfl) (by simp) ?_
      refine AllReadyH.cons (o:=oT10) rfl (fun K hK=>?_) AllReadyH.nil
      unfold oT10
      go_simp
      refine hK.out _ _ KD (fun hHeld=>?_)
      clear hK K
      try simp only[oT10,Act.put,zA,zB,zC]
      refine wpAnyH_done (by kernel_rfl) ?_ _
      clear K0 KB KC KD bc bcD bcA bc9 fr9
      go_wp2
      go_roundw
      case rel=>exact⟨k+1,m+1,c9,some ⟨g9,0,none⟩,L++[(z0,z1,z2)],true,rfl,by go_num,by omega,by omega,NX,P9⟩
      case measure=>simp[intOf];omega
     ·unfold oT7
      go_simp
      refine hK.out _ _ KB (fun hHeld=>?_)
      clear hK K
      try simp only[oT7,Act.put,zA,zB,zC]
      refine wpAnyH_ready (rs:=[1]) (by kernel_rfl) (by simp) ?_
      refine AllReadyH.cons (o:=oT1) rfl (fun K hK=>?_) AllReadyH.nil
      unfold oT1
      go_simp
      refine hK.out _ _ KB (fun hHeld=>?_)
      clear hK K
      try simp only[oT1,Act.put,zA,zB,zC]
      refine wpAnyH_ready (rs:=[8]) (by kernel_rfl) (by simp) ?_
      refine AllReadyH.cons (o:=oT8) rfl (fun K hK=>?_) AllReadyH.nil
      refine step_app (q2.drew.alloc (.cells #[.int .i64 z0,.string z1,.string z2] 120)) (by rfl) _ _ 50 120 (by rfl) (.agg #[.int .i64 0,.string ByteArray.empty,.string ByteArray.empty]) 3 40 Tryz.underlying50 HelpF14.info2 rfl (by decide) (by decide) W.heap.size (.slice a (m) c) (m) (flatF (L)) q2.drew.heap.size [.int .i64 z0,.string z1,.string z2] (by rfl) (by rfl) (row_step (W:=q2.drew) (zu PVD).ow (one_more q2.drew (.cells #[.int .i64 z0,.string z1,.string z2] 120))) rfl (litm q2.drew _ _ _ (by rfl)) (by simp[Value.oneCell']) (by omega) (Nat.le_trans (show W.heap.size≤q2.drew.heap.size from u3s) (by simp)) ?_
      intro g9 c9 u9 o9 gr9
      have BL:=(zu PVD).off
      have PA:=(zu PVD).app (p:=(z0,z1,z2)) hO ((Below.refl _ _).drew.alloc (Nat.le_refl _) (.cells #[.int .i64 z0,.string z1,.string z2] 120)) gr9 o9
      have bx9:=PA.1
      have bc9:=bx9.c1
      have fr9:=bx9.free 1
      have P9:=zh PA.2
      have us9:=gr9.size
      simp at us9
      have KC:u9.cell? ⟨w.heap.size,1,none⟩=some (.slice (some ⟨g,0,none⟩) x.ps.length x.c)∧u9.cell? ⟨g,k*3,none⟩=some (.int .i64 z0)∧u9.cell? ⟨g,k*3+1,none⟩=some (.string z1)∧u9.cell? ⟨g,k*3+2,none⟩=some (.string z2):=⟨gr9.cell KB.1 (fun e=>by have:=BL _ e.symm;simp only at this;omega),gr9.cell KB.2.1 (fun e=>by have:=BL _ e.symm;simp only at this;omega),gr9.cell KB.2.2.1 (fun e=>by have:=BL _ e.symm;simp only at this;omega),gr9.cell KB.2.2.2 (fun e=>by have:=BL _ e.symm;simp only at this;omega)⟩
      have SB:=bc_set1 bx9 (.slice (some ⟨g9,0,none⟩) (m+1) c9)
      have KD:(u9.setCell ⟨w.heap.size+1+1+1,1,none⟩ (.slice (some ⟨g9,0,none⟩) (m+1) c9)).cell? ⟨w.heap.size,1,none⟩=some (.slice (some ⟨g,0,none⟩) x.ps.length x.c)∧(u9.setCell ⟨w.heap.size+1+1+1,1,none⟩ (.slice (some ⟨g9,0,none⟩) (m+1) c9)).cell? ⟨g,k*3,none⟩=some (.int .i64 z0)∧(u9.setCell ⟨w.heap.size+1+1+1,1,none⟩ (.slice (some ⟨g9,0,none⟩) (m+1) c9)).cell? ⟨g,k*3+1,none⟩=some (.string z1)∧(u9.setCell ⟨w.heap.size+1+1+1,1,none⟩ (.slice (some ⟨g9,0,none⟩) (m+1) c9)).cell? ⟨g,k*3+2,none⟩=some (.string z2):=⟨(kcell SB.2 (1) (show w.heap.size<u9.heap.size from by omega) (show w.heap.size≠w.heap.size+1+1+1 from by omega)).trans KC.1,(kcell SB.2 (k*3) (show g<u9.heap.size from by omega) (show g≠w.heap.size+1+1+1 from by omega)).trans KC.2.1,(kcell SB.2 (k*3+1) (show g<u9.heap.size from by omega) (show g≠w.heap.size+1+1+1 from by omega)).trans KC.2.2.1,(kcell SB.2 (k*3+2) (show g<u9.heap.size from by omega) (show g≠w.heap.size+1+1+1 from by omega)).trans KC.2.2.2⟩
      clear o9 gr9 PA SB bx9 BL
      refine hK.out _ _ KC (fun hHeld=>?_)
      clear hK K
      try simp only[oT8,Act.put,zA,zB,zC]
      refine tk 9 oT9 (.pointer (some ⟨w.heap.size+1+1+1,1,none⟩)) rfl (by kernel_rfl) (fun _ _ _ h=>h) (by rfl) (fun w hSw=>?_) hHeld ?_
      ·(try dsimp only at hSw)
       unfold oT9
       go_simp
      try simp only[oT9,Act.put,zA,zB,zC]
      refine wpAnyH_ready (rs:=[10]) (by kernel_rfl) (by simp) ?_
      refine AllReadyH.cons (o:=oT10) rfl (fun K hK=>?_) AllReadyH.nil
      unfold oT10
      go_simp
      refine hK.out _ _ KD (fun hHeld=>?_)
      clear hK K
      try simp only[oT10,Act.put,zA,zB,zC]
      refine wpAnyH_done (by kernel_rfl) ?_ _
      clear K0 KB KC KD bc bcD bcA bc9 fr9
      go_wp2
      go_roundw
      case rel=>exact⟨k+1,m+1,c9,some ⟨g9,0,none⟩,L++[(z0,z1,z2)],true,rfl,by go_num,by omega,by omega,NX,P9⟩
      case measure=>simp[intOf];omega
  ·have e:k=x.ps.length:=by omega
   subst e
   have fF:=(kcell (zu HPt).gr 0 wl1 (by omega)).trans (zu F0)
   have fG:=(kcell (zu HPt).gr 1 wl1 (by omega)).trans (zu F1)
   have fH:=(kcell (zu HPt).gr 2 wl1 (by omega)).trans (zu F2)
   have wc:=(kcell (zu HPt).gr 1 wl0 (by omega)).trans (zu HWD).c1
   cases pb
   ·have E:=zh (show putF x.ps (f0,f1,f2)=L++[(f0,f1,f2)] from by rw[zu PF,zu HP];simp)
    clear PF HP
    have bo:=(zu HPt).bx.c1
    have lo:=(zu HPt).bx.lt.2
    have bob:(wr.alloc (.cells #[.int .i64 f0,.string f1,.string f2] 120)).cell? ⟨w.heap.size+1+1+1,1,none⟩=some (.slice a (m) c):=((one_more wr (.cells #[.int .i64 f0,.string f1,.string f2] 120)).cell (p:=⟨w.heap.size+1+1+1,1,none⟩) lo).trans bo
    have vs:=(zu HPt).gr.size
    go_wp2_with (first|(at_builtin;refine wp_app _ rfl _ _ rfl W.heap.size (.slice a (m) c) (m) (flatF (L)) wr.heap.size [.int .i64 f0,.string f1,.string f2] rfl rfl (row_step (zu HPt).ow (one_more wr (.cells #[.int .i64 f0,.string f1,.string f2] 120))) rfl (litm wr _ _ _ (by rfl)) (by simp[Value.oneCell']) (by omega) (Nat.le_trans vs (by simp)) ?_)|go_in)
    intro g8 c8 u8 o8 gr8
    (try rw[←s3] at o8)
    have PA:=(zu HPt).app (p:=(f0,f1,f2)) hO (one_more wr (.cells #[.int .i64 f0,.string f1,.string f2] 120)) gr8 o8
    have bx8:=PA.1
    have b80:=bx8.c1
    have b81:=bx8.free 1
    have P8:=zh PA.2
    clear o8 gr8 PA bo bob bx8
    generalize hL:L++[(f0,f1,f2)]=L9 at *
    clear hL
    have B0:=(zu P8).bx.c0
    have B1:=(zu P8).bx.c1
    have Rk:=zh ((zu HRB).kept (zu P8).gr (by simp))
    have e0:=(zu Rk).free 0
    have e1:=(zu Rk).free 1
    have r0:=(zu Rk).c0
    have r1:=(zu Rk).c1
    have lm:L9.length=(m+1):=by
     have:=(zu P8).ow.1
     rw[flatF_len] at this
     omega
    have LM:=zh lm
    have OR:=zh (row_base (zu P8).ow (show w.heap.size≤W.heap.size from by omega))
    have LB:=zh (show ∀j,(Value.slice (some ⟨g8,0,none⟩) (m+1) c8).ownBlock=some j→w.heap.size+4≤j from fun j hj=>by have:=(zu P8).off j hj;omega)
    have t0:=(zu Rk).set0 (.int .i64 x.room)
    have t1:=bc_set1 t0.1 (.slice (some ⟨g8,0,none⟩) (m+1) c8)
    have ST:=zh (grow_grow t0.2 t1.2)
    have BB:=zh (grow_low (zu HWD).b (zu P8).gr (by omega))
    have us:=(zu P8).gr.size
    clear lm t0 t1
    go_wp2
    refine bodyPost_ret (v:= .agg #[.int .i64 x.room,.slice (some ⟨g8,0,none⟩) (m+1) c8]) (by simp[results,Tryz.results77,go_sem,r0,r1]) rfl ⟨⟨x.room,(some ⟨g8,0,none⟩),c8,L9⟩,rfl,(zu E).symm,by simp[zu LM],?_,?_⟩
    ·unfold OwD
     simp only[zu LM]
     exact World.ownsRow.kept (zu OR) (zu ST) (by
      cases hb:(Value.slice (some ⟨g8,0,none⟩) (m+1) c8).ownBlock with
      |none=>exact .inl rfl
      |some g=>exact .inr (fun e=>by have:=(zu LB) g hb;injection e with e;omega))
    ·exact grow_low (zu BB) (zu ST) (by omega)
   ·have E:=zh (show putF x.ps (f0,f1,f2)=L from by rw[zu PF,zu HP];simp)
    clear PF HP
    have B0:=(zu HPt).bx.c0
    have B1:=(zu HPt).bx.c1
    have Rk:=zh ((zu HRB).kept (zu HPt).gr (by simp))
    have e0:=(zu Rk).free 0
    have e1:=(zu Rk).free 1
    have r0:=(zu Rk).c0
    have r1:=(zu Rk).c1
    have lm:L.length=m:=by
     have:=(zu HPt).ow.1
     rw[flatF_len] at this
     omega
    have LM:=zh lm
    have OR:=zh (row_base (zu HPt).ow (show w.heap.size≤W.heap.size from by omega))
    have LB:=zh (show ∀j,(Value.slice a m c).ownBlock=some j→w.heap.size+4≤j from fun j hj=>by have:=(zu HPt).off j hj;omega)
    have t0:=(zu Rk).set0 (.int .i64 x.room)
    have t1:=bc_set1 t0.1 (.slice a m c)
    have ST:=zh (grow_grow t0.2 t1.2)
    have BB:=zh (grow_low (zu HWD).b (zu HPt).gr (by omega))
    have us:=(zu HPt).gr.size
    clear lm t0 t1
    go_wp2
    refine bodyPost_ret (v:= .agg #[.int .i64 x.room,.slice a m c]) (by simp[results,Tryz.results77,go_sem,r0,r1]) rfl ⟨⟨x.room,a,c,L⟩,rfl,(zu E).symm,by simp[zu LM],?_,?_⟩
    ·unfold OwD
     simp only[zu LM]
     exact World.ownsRow.kept (zu OR) (zu ST) (by
      cases hb:(Value.slice a m c).ownBlock with
      |none=>exact .inl rfl
      |some g=>exact .inr (fun e=>by have:=(zu LB) g hb;injection e with e;omega))
    ·exact grow_low (zu BB) (zu ST) (by omega)
end SPut14
namespace SClear15
open Fil14 OpensF14 DiskH14 DkH14 SDk14 SOk14 SRd14 App14 SLess14 SCom14 SPut14 SegP15 SSg16
open DkH14 (row_step)
def stays(ks:List Int)(p:TF):Bool:= !okS p.1||ks.contains p.1
def clearD(room:Int)(ps:List TF)(ks:List Int):Int×List TF:=if OkD room ps∧ks.length≤20 then(room,ps.filter (stays ks)) else(0,[])
theorem sHas(w:World)(g n cap:Nat)(xs:List Int)(x:Int)(b:Bool)(hl:xs.length=n)(h20:n≤1048576)(h:Ints.At w g xs)(hb:xs.contains x=b):
  Calls Tryz.prog 80 #[.slice (some ⟨g,0,none⟩) n cap,.int .i64 x] w fun e w'=>e= .returned (.bool b)∧w'=w:=by
 have IFF:∀k,k<n→xs.getD k 0=x→b=true:=fun k hk e=>by
  rw[←hb,List.contains_iff_mem,←e]
  have:k<xs.length:=by omega
  simp only[List.getD,List.getElem?_eq_getElem this,Option.getD_some]
  exact List.getElem_mem this
 have NO:(∀k,k<n→xs.getD k 0≠x)→b=false:=fun q=>by
  rw[←hb]
  cases e:xs.contains x with
  |false=>rfl
  |true=>
   rw[List.contains_iff_mem] at e
   obtain⟨i,hi,e⟩:=List.getElem_of_mem e
   exact absurd (by simp[List.getD,hi,e]) (q i (by omega))
 have HI:=zh IFF
 have HN:=zh NO
 have HA:=zh h
 clear IFF NO h hb
 go_enter Tryz.func80,Tryz.ntmps80
 go_wp2
 go_loop [5] (fun j=>∃(k:Nat),k≤n∧j= .int .i64 k∧Hid (∀i,i<k→xs.getD i 0≠x)) (fun j=>n-(intOf j).toNat)
 case atStart=>exact⟨0,by omega,rfl,zh (fun i hi=>by omega)⟩
 case round=>
  obtain⟨k,hk,rfl,HG⟩:=hrel
  by_cases t:k<n
  ·have e1:=(zu HA) k (by omega)
   have YES:=zh ((zu HI) k t)
   have GO:=zh (show xs.getD k 0≠x→∀i,i<k+1→xs.getD i 0≠x from fun hn i hi=>by
    by_cases e:i=k
    ·subst e;exact hn
    ·exact(zu HG) i (by omega))
   generalize xs.getD k 0=y at *
   by_cases c1:y=x
   ·obtain rfl:b=true:=(zu YES) c1
    clear YES GO
    subst c1
    go_wp2
    go_ret
    exact⟨rfl,rfl⟩
   ·have G:=zh ((zu GO) c1)
    have c1b:(y==x)=false:=by simpa using c1
    clear YES GO
    go_wp2
    go_round
    case rel=>exact⟨k+1,by omega,by go_num,G⟩
    case measure=>simp[intOf];omega
  ·obtain rfl:k=n:=by omega
   obtain rfl:b=false:=(zu HN) (zu HG)
   go_wp2
   go_ret
   exact⟨rfl,rfl⟩
abbrev oL0:Oper:={dst:=some 44,op:=Go.Op.fieldAddr 52 (Go.Operand.tmp 5) 1,type:=0,pos:= "l15_segment.go:71",after:= #[],guard:=none}
abbrev oL1:Oper:={dst:=some 45,op:=Go.Op.load 50 (Go.Operand.tmp 44),type:=50,pos:= "l15_segment.go:71",after:= #[{on:=0,ground:=Go.Ground.data}],guard:=none}
abbrev oL2:Oper:={dst:=some 46,op:=Go.Op.fieldAddr 52 (Go.Operand.tmp 2) 1,type:=0,pos:= "l15_segment.go:71",after:= #[],guard:=none}
abbrev oL3:Oper:={dst:=some 47,op:=Go.Op.load 50 (Go.Operand.tmp 46),type:=50,pos:= "l15_segment.go:71",after:= #[{on:=2,ground:=Go.Ground.data}],guard:=none}
abbrev oL4:Oper:={dst:=some 48,op:=Go.Op.move (Go.Operand.tmp 6),type:=3,pos:= "l15_segment.go:71",after:= #[],guard:=none}
abbrev oL5:Oper:={dst:=some 49,op:=Go.Op.indexAddr 50 (Go.Operand.tmp 47) (Go.Operand.tmp 48),type:=0,pos:= "l15_segment.go:71",after:= #[{on:=3,ground:=Go.Ground.data},{on:=4,ground:=Go.Ground.data}],guard:=none}
abbrev oL6:Oper:={dst:=some 50,op:=Go.Op.load 120 (Go.Operand.tmp 49),type:=120,pos:= "l15_segment.go:71",after:= #[{on:=5,ground:=Go.Ground.data}],guard:=none}
abbrev oL7:Oper:={dst:=some 51,op:=Go.Op.buildSlice 50 1 #[(0,Go.Operand.tmp 50)],type:=50,pos:= "l15_segment.go:71",after:= #[{on:=6,ground:=Go.Ground.data}],guard:=none}
abbrev oL8:Oper:={dst:=some 52,op:=Go.Op.call {callee:=Go.Callee.builtin Go.Builtin.append,args:= #[Go.Operand.tmp 45,Go.Operand.tmp 51],argTypes:= #[50,50]},type:=50,pos:= "l15_segment.go:71",after:= #[{on:=1,ground:=Go.Ground.data},{on:=7,ground:=Go.Ground.data}],guard:=none}
abbrev oL9:Oper:={dst:=some 53,op:=Go.Op.fieldAddr 52 (Go.Operand.tmp 5) 1,type:=0,pos:= "l15_segment.go:71",after:= #[{on:=0,ground:=Go.Ground.phase},{on:=1,ground:=Go.Ground.phase},{on:=2,ground:=Go.Ground.phase},{on:=3,ground:=Go.Ground.phase},{on:=4,ground:=Go.Ground.phase},{on:=5,ground:=Go.Ground.phase},{on:=6,ground:=Go.Ground.phase},{on:=7,ground:=Go.Ground.phase},{on:=8,ground:=Go.Ground.phase}],guard:=none}
abbrev oL10:Oper:={dst:=none,op:=Go.Op.store 50 (Go.Operand.tmp 53) (Go.Operand.tmp 52),type:=0,pos:= "l15_segment.go:71",after:= #[{on:=9,ground:=Go.Ground.data},{on:=8,ground:=Go.Ground.data},{on:=8,ground:=Go.Ground.chain},{on:=0,ground:=Go.Ground.phase},{on:=1,ground:=Go.Ground.phase},{on:=2,ground:=Go.Ground.phase},{on:=3,ground:=Go.Ground.phase},{on:=4,ground:=Go.Ground.phase},{on:=5,ground:=Go.Ground.phase},{on:=6,ground:=Go.Ground.phase},{on:=7,ground:=Go.Ground.phase},{on:=8,ground:=Go.Ground.phase}],guard:=none}
end SClear15
namespace VOI
open Ints (Own At)
def Ob(w:World)(base:Nat)(a:Option Addr)(n cap:Nat)(xs:List Int):Prop:=w.ownsRow base 3 1 (.slice a n cap) n (xs.map (Value.int .i64))
theorem Ob.of{w:World}{base g n cap:Nat}{xs:List Int}(h:Own w base g n cap xs):Ob w base (some ⟨g,0,none⟩) n cap xs:=h
theorem Ob.nil(w:World)(base:Nat):Ob w base none 0 0 []:=World.ownsRow_nil w base _ _
section
variable {w w':World} {base n cap:Nat} {a:Option Addr} {xs:List Int}
theorem Ob.len(h:Ob w base a n cap xs):xs.length=n:=by have:=h.1;simpa using this
theorem Ob.either(h:Ob w base a n cap xs):(a=none∧n=0∧xs=[])∨∃g,a=some ⟨g,0,none⟩∧Own w base g n cap xs:=by
 have hl:=h.len
 rcases h.2 with⟨h1,_⟩|⟨g,c,cur,h1,_⟩
 ·have:a=none∧n=0∧cap=0:=by simpa using h1
  obtain⟨rfl,rfl,rfl⟩:=this
  exact .inl ⟨rfl,rfl,List.eq_nil_of_length_eq_zero hl⟩
 ·have:a=some ⟨g,0,none⟩∧cap=c:=by simpa using h1
  obtain⟨rfl,rfl⟩:=this
  exact .inr ⟨g,rfl,h⟩
def Btw(lo hi:Nat)(a:Option Addr):Prop:=∀x,a=some x→lo≤x.block∧x.block<hi
theorem Ob.btw(h:Ob w base a n cap xs):Btw base w.heap.size a:=by
 intro x hx
 rcases h.either with⟨rfl,_⟩|⟨g,rfl,o⟩
 ·cases hx
 ·cases hx;exact o.lt
theorem Btw.mono{lo hi lo' hi':Nat}(h:Btw lo hi a)(h1:lo'≤lo)(h2:hi≤hi'):Btw lo' hi' a:=fun x hx=>⟨Nat.le_trans h1 (h x hx).1,Nat.lt_of_lt_of_le (h x hx).2 h2⟩
theorem Ob.mono{base':Nat}(h:Ob w base a n cap xs)(hb:base'≤base):Ob w base' a n cap xs:=by
 rcases h.either with⟨rfl,rfl,rfl⟩|⟨g,rfl,o⟩
 ·refine⟨h.1,?_⟩
  rcases h.2 with h|⟨g,c,cur,h1,_⟩
  ·exact .inl h
  ·simp at h1
 ·exact o.mono hb
theorem Ob.below{B:Nat}(h:Ob w base a n cap xs)(k:Below B w w')(hb:Btw 0 B a):Ob w' base a n cap xs:=by
 rcases h.either with⟨rfl,rfl,rfl⟩|⟨g,rfl,o⟩
 ·refine⟨h.1,?_⟩
  rcases h.2 with h|⟨g,c,cur,h1,_⟩
  ·exact .inl h
  ·simp at h1
 ·exact o.below k (hb _ rfl).2
theorem Ob.step(h:Ob w base a n cap xs)(k:Below w.heap.size w w'):Ob w' base a n cap xs:=h.below k (h.btw.mono (Nat.zero_le _) (Nat.le_refl _))
theorem Ob.kept{row:Option Nat}(h:Ob w base a n cap xs)(k:w.grownBy w' row)(hr:∀x,a=some x→some x.block≠row):Ob w' base a n cap xs:=by
 rcases h.either with⟨rfl,rfl,rfl⟩|⟨g,rfl,o⟩
 ·refine⟨h.1,?_⟩
  rcases h.2 with h|⟨g,c,cur,h1,_⟩
  ·exact .inl h
  ·simp at h1
 ·exact o.kept k (hr _ rfl)
end
def Rd(w:World)(a:Option Addr)(xs:List Int):Prop:=xs=[]∨∃g,a=some ⟨g,0,none⟩∧g<w.heap.size∧At w g xs
theorem Ob.rd{w:World}{base n cap:Nat}{a:Option Addr}{xs:List Int}(h:Ob w base a n cap xs):Rd w a xs:=by
 rcases h.either with⟨rfl,rfl,rfl⟩|⟨g,rfl,o⟩
 ·exact .inl rfl
 ·exact .inr ⟨g,rfl,o.lt.2,o.at⟩
theorem Rd.below{w w':World}{a:Option Addr}{xs:List Int}(h:Rd w a xs)(k:Below w.heap.size w w'):Rd w' a xs:=by
 rcases h with h|⟨g,e,hl,hc⟩
 ·exact .inl h
 ·exact .inr ⟨g,e,Nat.lt_of_lt_of_le hl k.size,hc.below k hl⟩
end VOI
namespace SClear16
open Fil14 OpensF14 DiskH14 DkH14 SDk14 SOk14 SRd14 App14 SLess14 SCom14 SPut14 SegP15 SSg16
open SClear15 (stays clearD sHas)
open DkH14 (row_step)
theorem sHasO(w:World)(a:Option Addr)(n cap:Nat)(xs:List Int)(x:Int)(b:Bool)(hl:xs.length=n)(h20:n≤1048576)(h:VOI.Rd w a xs)(hb:xs.contains x=b):
  Calls Tryz.prog 80 #[.slice a n cap,.int .i64 x] w fun e w'=>e= .returned (.bool b)∧w'=w:=by
 rcases h with rfl|⟨g,rfl,_,h⟩
 ·obtain rfl:n=0:=by simpa using hl.symm
  obtain rfl:b=false:=by rw[←hb];rfl
  go_enter Tryz.func80,Tryz.ntmps80
  go_wp2
  go_loop [5] (fun j=>j= .int .i64 0) (fun _=>0)
  case atStart=>rfl
  case round=>
   subst hrel
   go_wp2
   go_ret
   exact⟨rfl,rfl⟩
 ·exact sHas w g n cap xs x b hl h20 h hb
theorem sSegsClearO(w:World)(x:Dx)(va:Option Addr)(ck:Nat)(ks:List Int)(hr:RdD w x)(hz:sumZ x.ps≤1048576)(hk20:ks.length≤1048576)(ha:VOI.Rd w va ks):
  Calls Tryz.prog 42 #[.agg #[.int .i64 x.room,.slice x.a x.ps.length x.c],.slice va ks.length ck] w fun e w'=>∃y:Dx,(y.room,y.ps)=clearD x.room x.ps ks∧e= .returned (.agg #[.int .i64 y.room,.slice y.a y.ps.length y.c])∧OwD w' w.heap.size y∧Below w.heap.size w w':=by
 have G0:=zh (begunD hr)
 have s2:((w.alloc (.cells #[.int .i64 x.room,.slice x.a x.ps.length x.c] 52)).alloc (.cells #[.int .i64 0,.slice none 0 0] 52)).heap.size=w.heap.size+2:=by simp
 have OK0:=zh (sDiskOk _ x (zu G0).1.r hz)
 have RE:=zh (show clearD x.room x.ps ks=if OkD x.room x.ps∧ks.length≤20 then(x.room,x.ps.filter (stays ks)) else(0,[]) from rfl)
 have G1:=zh (fun g e=>(hr.r g e).1)
 have HK:=zh (fun w' (b:Below w.heap.size w w')=>ha.below b)
 have h20:=hr.n
 generalize clearD x.room x.ps ks=rr at *
 clear hr ha
 by_cases ok:OkD x.room x.ps∧ks.length≤20
 case neg=>
  obtain rfl:rr=(0,[]):=by rw[zu RE,if_neg ok]
  clear RE
  obtain⟨b,hb⟩:∃b,decide (OkD x.room x.ps)=b:=⟨_,rfl⟩
  have KL:=zh (show b=true→20<ks.length from fun e=>by
   rw[←hb] at e
   have:=of_decide_eq_true e
   exact Nat.lt_of_not_le (fun q=>ok ⟨this,q⟩))
  rw[hb] at OK0
  clear hb ok
  go_enter Tryz.func42,Tryz.ntmps42
  go_wp2_with fail
  refine(zu OK0).mono ?_
  rintro e u ⟨rfl,b1⟩
  have R2:=zh ((zu G0).2.below b1 (by omega))
  have EN:=zh (endedD (y:=⟨0,none,0,[]⟩) (base0:=w.heap.size+2) (((zu G0).1.step b1).b) (zu R2) ⟨rfl,.inl ⟨rfl,rfl⟩⟩ (by omega))
  have f0:=(zu R2).free 0
  have f1:=(zu R2).free 1
  have r0:=(zu R2).c0
  have r1:=(zu R2).c1
  clear b1 OK0 G0
  cases b with
  |false=>
   go_wp2
   refine bodyPost_ret (v:= .agg #[.int .i64 0,.slice none 0 0]) (by simp[results,Tryz.results42,go_sem,r0,r1]) rfl ⟨⟨0,none,0,[]⟩,rfl,rfl,(zu EN).1,(zu EN).2⟩
  |true=>
   have kb:(ks.length:Int)>20:=by have:=(zu KL) rfl;omega
   go_wp2
   refine bodyPost_ret (v:= .agg #[.int .i64 0,.slice none 0 0]) (by simp[results,Tryz.results42,go_sem,r0,r1]) rfl ⟨⟨0,none,0,[]⟩,rfl,rfl,(zu EN).1,(zu EN).2⟩
 obtain rfl:rr=(x.room,x.ps.filter (stays ks)):=by rw[zu RE,if_pos ok]
 have h22:=ok.1.2.1
 have kd:decide ((ks.length:Int)>20)=false:=decide_eq_false (by have:=ok.2;omega)
 rw[decide_eq_true ok.1] at OK0
 clear RE ok
 go_enter Tryz.func42,Tryz.ntmps42
 go_wp2_with fail
 refine(zu OK0).mono ?_
 rintro e u ⟨rfl,b1⟩
 have W1:=zh ((zu G0).1.step b1)
 have R1:=zh ((zu G0).2.below b1 (by omega))
 have us:=b1.size
 rw[s2] at us
 clear b1 G0 OK0 s2
 have W3:=zh ((zu W1).step (one_more u (.cells #[.int .i64 x.room,.slice none 0 0] 52)))
 have R3:=zh ((zu R1).below (one_more u (.cells #[.int .i64 x.room,.slice none 0 0] 52)) (zu R1).lt.2)
 have P0:=zh (show Pt w.heap.size u.heap.size (u.alloc (.cells #[.int .i64 x.room,.slice none 0 0] 52)) (u.alloc (.cells #[.int .i64 x.room,.slice none 0 0] 52)) x.room ((x.ps.take 0).filter (stays ks)) none 0 0 from⟨World.grownBy.refl _ _,Bc.made _ _ (by omega) rfl,⟨rfl,.inl ⟨rfl,rfl⟩⟩⟩)
 have s3:(u.alloc (.cells #[.int .i64 x.room,.slice none 0 0] 52)).heap.size=u.heap.size+1:=by simp
 have c0:=(zu W1).c0
 have c1:=(zu W1).c1
 have lt:=(zu W1).lt
 clear W1 R1
 go_wp2
 generalize u.alloc (.cells #[.int .i64 x.room,.slice none 0 0] 52)=W at *
 clear c0 c1 lt
 have hO:u.heap.size<W.heap.size:=by omega
 go_loopw [6] (fun i wr=>∃(k m c:Nat) (a:Option Addr),i= .int .i64 k∧k≤x.ps.length∧m≤k∧Hid (Pt w.heap.size u.heap.size W wr x.room ((x.ps.take k).filter (stays ks)) a m c)) (fun i _=>x.ps.length-(intOf i).toNat)
 case atStart=>exact⟨0,0,0,none,rfl,by omega,by omega,P0⟩
 case round=>
  clear P0
  obtain⟨k,m,c,a,rfl,hk,hm,PT⟩:=hrel
  have gs:=(zu PT).gr.size
  have c1:=(kcell (zu PT).gr 1 (show w.heap.size<W.heap.size from by omega) (by omega)).trans (zu W3).c1
  by_cases t:k<x.ps.length
  ·have kt:(k:Int)<x.ps.length:=by omega
   have TK0:=zh (show(x.ps.take (k+1)).filter (stays ks)=(x.ps.take k).filter (stays ks)++if stays ks (elF x.ps k) then[elF x.ps k] else[] from by
    rw[List.take_succ_eq_append_getElem t,List.filter_append,elF_get t]
    simp[List.filter_cons])
   obtain⟨g,ea,lg,e0,e1,e2⟩:=cells_of (zu W3).r t
   have lg0:=(zu G1) g ea
   have gn:g≠u.heap.size:=by omega
   have d0:=(kcell (zu PT).gr (k*3) lg gn).trans e0
   have d1:=(kcell (zu PT).gr (k*3+1) lg gn).trans e1
   have d2:=(kcell (zu PT).gr (k*3+2) lg gn).trans e2
   have BW:=zh (show Below w.heap.size w wr from grow_low (zu W3).b (zu PT).gr ⟨by omega,by omega⟩)
   rw[ea] at c1
   have AK:=zh ((zu HK) wr (zu BW))
   clear ea BW
   generalize hp:elF x.ps k=p at *
   obtain⟨z0,z1,z2⟩:=p
   have ST:=zh (show stays ks (z0,z1,z2)=(!okS z0||ks.contains z0) from rfl)
   generalize (x.ps.take k).filter (stays ks)=L at *
   simp only at d0 d1 d2
   clear e0 e1 e2 hp
   obtain⟨sb,hsb⟩:∃sb,okS z0=sb:=⟨_,rfl⟩
   obtain⟨kb,hkb⟩:∃kb,ks.contains z0=kb:=⟨_,rfl⟩
   have SS:=zh hsb
   have KK:=zh hkb
   rw[hsb,hkb] at ST
   clear hsb hkb
   cases sb with
   |false=>
    have TK:=zh (show(x.ps.take (k+1)).filter (stays ks)=L++[(z0,z1,z2)] by rw[zu TK0,zu ST];simp)
    clear TK0 ST KK AK
    go_wp2_with fail
    refine(sSegOk _ z0 false (zu SS)).mono ?_
    rintro e wr ⟨rfl,rfl⟩
    have K0:wr.cell? ⟨w.heap.size,1,none⟩=some (.slice (some ⟨g,0,none⟩) x.ps.length x.c)∧wr.cell? ⟨g,k*3,none⟩=some (.int .i64 z0)∧wr.cell? ⟨g,k*3+1,none⟩=some (.string z1)∧wr.cell? ⟨g,k*3+2,none⟩=some (.string z2):=⟨c1,d0,d1,d2⟩
    have KB:(wr.drew.alloc (.cells #[.int .i64 z0,.string z1,.string z2] 120)).cell? ⟨w.heap.size,1,none⟩=some (.slice (some ⟨g,0,none⟩) x.ps.length x.c)∧(wr.drew.alloc (.cells #[.int .i64 z0,.string z1,.string z2] 120)).cell? ⟨g,k*3,none⟩=some (.int .i64 z0)∧(wr.drew.alloc (.cells #[.int .i64 z0,.string z1,.string z2] 120)).cell? ⟨g,k*3+1,none⟩=some (.string z1)∧(wr.drew.alloc (.cells #[.int .i64 z0,.string z1,.string z2] 120)).cell? ⟨g,k*3+2,none⟩=some (.string z2):=⟨((one_more wr.drew (.cells #[.int .i64 z0,.string z1,.string z2] 120)).cell (p:=⟨w.heap.size,1,none⟩) (show w.heap.size<wr.heap.size from by omega)).trans c1,((one_more wr.drew (.cells #[.int .i64 z0,.string z1,.string z2] 120)).cell (p:=⟨g,k*3,none⟩) (show g<wr.heap.size from by omega)).trans d0,((one_more wr.drew (.cells #[.int .i64 z0,.string z1,.string z2] 120)).cell (p:=⟨g,k*3+1,none⟩) (show g<wr.heap.size from by omega)).trans d1,((one_more wr.drew (.cells #[.int .i64 z0,.string z1,.string z2] 120)).cell (p:=⟨g,k*3+2,none⟩) (show g<wr.heap.size from by omega)).trans d2⟩
    have bc:=(zu PT).bx.c1
    have bcD:wr.drew.cell? ⟨u.heap.size,1,none⟩=some (.slice a m c):=bc
    have bcA:(wr.alloc (.cells #[.int .i64 z0,.string z1,.string z2] 120)).cell? ⟨u.heap.size,1,none⟩=some (.slice a m c):=((one_more wr.drew (.cells #[.int .i64 z0,.string z1,.string z2] 120)).cell (p:=⟨u.heap.size,1,none⟩) (show u.heap.size<wr.heap.size from by omega)).trans bc
    go_wp2_with fail
    refine wp_region_held_drew (S:=(fun w'=>w'.cell? ⟨w.heap.size,1,none⟩=some (.slice (some ⟨g,0,none⟩) x.ps.length x.c)∧w'.cell? ⟨g,k*3,none⟩=some (.int .i64 z0)∧w'.cell? ⟨g,k*3+1,none⟩=some (.string z1)∧w'.cell? ⟨g,k*3+2,none⟩=some (.string z2))) (by kernel_rfl) K0 (fun hHeld=>?_)
    refine wpAnyH_take (i:=0) (oi:=SClear15.oL0) (v:= .pointer (some ⟨u.heap.size,1,none⟩)) rfl (by kernel_rfl) (by kernel_rfl) (by kernel_rfl) (fun _ _ _ h=>h) (Or.inl ⟨by rfl,fun w hSw=>?_⟩) hHeld ?_
    ·(try dsimp only at hSw)
     unfold SClear15.oL0
     go_simp
    try simp only[SClear15.oL0,Act.put,zA,zB,zC]
    refine wpAnyH_take (i:=2) (oi:=SClear15.oL2) (v:= .pointer (some ⟨w.heap.size,1,none⟩)) rfl (by kernel_rfl) (by kernel_rfl) (by kernel_rfl) (fun _ _ _ h=>h) (Or.inl ⟨by rfl,fun w hSw=>?_⟩) hHeld ?_
    ·(try dsimp only at hSw)
     unfold SClear15.oL2
     go_simp
    try simp only[SClear15.oL2,Act.put,zA,zB,zC]
    refine wpAnyH_take (i:=3) (oi:=SClear15.oL3) (v:= .slice (some ⟨g,0,none⟩) x.ps.length x.c) rfl (by kernel_rfl) (by kernel_rfl) (by kernel_rfl) (fun _ _ _ h=>h) (Or.inl ⟨by rfl,fun w hSw=>?_⟩) hHeld ?_
    ·(try dsimp only at hSw)
     unfold SClear15.oL3
     go_simp
    try simp only[SClear15.oL3,Act.put,zA,zB,zC]
    refine wpAnyH_take (i:=4) (oi:=SClear15.oL4) (v:= .int .i64 k) rfl (by kernel_rfl) (by kernel_rfl) (by kernel_rfl) (fun _ _ _ h=>h) (Or.inl ⟨by rfl,fun w hSw=>?_⟩) hHeld ?_
    ·(try dsimp only at hSw)
     unfold SClear15.oL4
     go_simp
    try simp only[SClear15.oL4,Act.put,zA,zB,zC]
    refine wpAnyH_take (i:=5) (oi:=SClear15.oL5) (v:= .pointer (some ⟨g,k*3,none⟩)) rfl (by kernel_rfl) (by kernel_rfl) (by kernel_rfl) (fun _ _ _ h=>h) (Or.inl ⟨by rfl,fun w hSw=>?_⟩) hHeld ?_
    ·(try dsimp only at hSw)
     unfold SClear15.oL5
     go_simp
    try simp only[SClear15.oL5,Act.put,zA,zB,zC]
    refine wpAnyH_take (i:=6) (oi:=SClear15.oL6) (v:= .agg #[.int .i64 z0,.string z1,.string z2]) rfl (by kernel_rfl) (by kernel_rfl) (by kernel_rfl) (fun _ _ _ h=>h) (Or.inl ⟨by rfl,fun w hSw=>?_⟩) hHeld ?_
    ·(try dsimp only at hSw)
     unfold SClear15.oL6
     go_simp
    try simp only[SClear15.oL6,Act.put,zA,zB,zC]
    refine wpAnyH_ready (rs:=[1,7]) (by kernel_rfl) (by simp) ?_
    refine AllReadyH.cons (o:=SClear15.oL1) rfl (fun K hK=>?_) (AllReadyH.cons (o:=SClear15.oL7) rfl (fun K hK=>?_) AllReadyH.nil)
    ·unfold SClear15.oL1
     go_simp
     refine hK.out _ _ K0 (fun hHeld=>?_)
     clear hK K
     try simp only[SClear15.oL1,Act.put,zA,zB,zC]
     refine wpAnyH_ready (rs:=[7]) (by kernel_rfl) (by simp) ?_
     refine AllReadyH.cons (o:=SClear15.oL7) rfl (fun K hK=>?_) AllReadyH.nil
     unfold SClear15.oL7
     go_simp
     refine hK.out _ _ KB (fun hHeld=>?_)
     clear hK K
     try simp only[SClear15.oL7,Act.put,zA,zB,zC]
     refine wpAnyH_ready (rs:=[8]) (by kernel_rfl) (by simp) ?_
     refine AllReadyH.cons (o:=SClear15.oL8) rfl (fun K hK=>?_) AllReadyH.nil
     refine step_app (wr.drew.alloc (.cells #[.int .i64 z0,.string z1,.string z2] 120)) (by rfl) _ _ 50 120 (by rfl) (.agg #[.int .i64 0,.string ByteArray.empty,.string ByteArray.empty]) 3 40 Tryz.underlying50 HelpF14.info2 rfl (by decide) (by decide) W.heap.size (.slice a m c) m (flatF L) wr.drew.heap.size [.int .i64 z0,.string z1,.string z2] (by rfl) (by rfl) (row_step (W:=wr.drew) (zu PT).ow (one_more wr.drew (.cells #[.int .i64 z0,.string z1,.string z2] 120))) rfl (litm wr.drew _ _ _ (by rfl)) (by simp[Value.oneCell']) (by omega) (Nat.le_trans (show W.heap.size≤wr.drew.heap.size from gs) (by simp)) ?_
     intro g9 c9 u9 o9 gr9
     have PA:=(zu PT).drew.app (p:=(z0,z1,z2)) hO (one_more wr.drew (.cells #[.int .i64 z0,.string z1,.string z2] 120)) gr9 o9
     have BL:∀j,(Value.slice a m c).ownBlock=some j→W.heap.size≤j:=fun j hj=>(World.ownsRow.lt (zu PT).ow j hj).1
     have BX9:=zh PA.1
     have P9:=zh PA.2
     have fr9:u9.frozen? ⟨u.heap.size,1,none⟩=false:=(zu BX9).free 1
     have bc9:=(zu BX9).c1
     have gs9:=gr9.size
     simp at gs9
     have KC:u9.cell? ⟨w.heap.size,1,none⟩=some (.slice (some ⟨g,0,none⟩) x.ps.length x.c)∧u9.cell? ⟨g,k*3,none⟩=some (.int .i64 z0)∧u9.cell? ⟨g,k*3+1,none⟩=some (.string z1)∧u9.cell? ⟨g,k*3+2,none⟩=some (.string z2):=⟨gr9.cell KB.1 (fun e=>by have:=BL _ e.symm;simp only at this;omega),gr9.cell KB.2.1 (fun e=>by have:=BL _ e.symm;simp only at this;omega),gr9.cell KB.2.2.1 (fun e=>by have:=BL _ e.symm;simp only at this;omega),gr9.cell KB.2.2.2 (fun e=>by have:=BL _ e.symm;simp only at this;omega)⟩
     have SB:=bc_set1 (zu BX9) (.slice (some ⟨g9,0,none⟩) (m+1) c9)
     have KD:(u9.setCell ⟨u.heap.size,1,none⟩ (.slice (some ⟨g9,0,none⟩) (m+1) c9)).cell? ⟨w.heap.size,1,none⟩=some (.slice (some ⟨g,0,none⟩) x.ps.length x.c)∧(u9.setCell ⟨u.heap.size,1,none⟩ (.slice (some ⟨g9,0,none⟩) (m+1) c9)).cell? ⟨g,k*3,none⟩=some (.int .i64 z0)∧(u9.setCell ⟨u.heap.size,1,none⟩ (.slice (some ⟨g9,0,none⟩) (m+1) c9)).cell? ⟨g,k*3+1,none⟩=some (.string z1)∧(u9.setCell ⟨u.heap.size,1,none⟩ (.slice (some ⟨g9,0,none⟩) (m+1) c9)).cell? ⟨g,k*3+2,none⟩=some (.string z2):=⟨(kcell SB.2 (1) (show w.heap.size<u9.heap.size from by omega) (show w.heap.size≠u.heap.size from by omega)).trans KC.1,(kcell SB.2 (k*3) (show g<u9.heap.size from by omega) gn).trans KC.2.1,(kcell SB.2 (k*3+1) (show g<u9.heap.size from by omega) gn).trans KC.2.2.1,(kcell SB.2 (k*3+2) (show g<u9.heap.size from by omega) gn).trans KC.2.2.2⟩
     clear o9 SB PA
     refine hK.out _ _ KC (fun hHeld=>?_)
     clear hK K
     try simp only[SClear15.oL8,Act.put,zA,zB,zC]
     refine wpAnyH_take (i:=9) (oi:=SClear15.oL9) (v:= .pointer (some ⟨u.heap.size,1,none⟩)) rfl (by kernel_rfl) (by kernel_rfl) (by kernel_rfl) (fun _ _ _ h=>h) (Or.inl ⟨by rfl,fun w hSw=>?_⟩) hHeld ?_
     ·(try dsimp only at hSw)
      unfold SClear15.oL9
      go_simp
     try simp only[SClear15.oL9,Act.put,zA,zB,zC]
     refine wpAnyH_ready (rs:=[10]) (by kernel_rfl) (by simp) ?_
     refine AllReadyH.cons (o:=SClear15.oL10) rfl (fun K hK=>?_) AllReadyH.nil
     unfold SClear15.oL10
     go_simp
     refine hK.out _ _ KD (fun hHeld=>?_)
     clear hK K
     try simp only[SClear15.oL10,Act.put,zA,zB,zC]
     refine wpAnyH_done (by kernel_rfl) ?_ _
     clear K0 KB KC KD gr9 bc bcD bcA bc9 fr9
     go_wp2
     go_roundw
     case rel=>exact⟨k+1,m+1,c9,some ⟨g9,0,none⟩,by go_num,by omega,by omega,by rw[zu TK];exact P9⟩
     case measure=>simp[intOf];omega
    ·unfold SClear15.oL7
     go_simp
     refine hK.out _ _ KB (fun hHeld=>?_)
     clear hK K
     try simp only[SClear15.oL7,Act.put,zA,zB,zC]
     refine wpAnyH_ready (rs:=[1]) (by kernel_rfl) (by simp) ?_
     refine AllReadyH.cons (o:=SClear15.oL1) rfl (fun K hK=>?_) AllReadyH.nil
     unfold SClear15.oL1
     go_simp
     refine hK.out _ _ KB (fun hHeld=>?_)
     clear hK K
     try simp only[SClear15.oL1,Act.put,zA,zB,zC]
     refine wpAnyH_ready (rs:=[8]) (by kernel_rfl) (by simp) ?_
     refine AllReadyH.cons (o:=SClear15.oL8) rfl (fun K hK=>?_) AllReadyH.nil
     refine step_app (wr.drew.alloc (.cells #[.int .i64 z0,.string z1,.string z2] 120)) (by rfl) _ _ 50 120 (by rfl) (.agg #[.int .i64 0,.string ByteArray.empty,.string ByteArray.empty]) 3 40 Tryz.underlying50 HelpF14.info2 rfl (by decide) (by decide) W.heap.size (.slice a m c) m (flatF L) wr.drew.heap.size [.int .i64 z0,.string z1,.string z2] (by rfl) (by rfl) (row_step (W:=wr.drew) (zu PT).ow (one_more wr.drew (.cells #[.int .i64 z0,.string z1,.string z2] 120))) rfl (litm wr.drew _ _ _ (by rfl)) (by simp[Value.oneCell']) (by omega) (Nat.le_trans (show W.heap.size≤wr.drew.heap.size from gs) (by simp)) ?_
     intro g9 c9 u9 o9 gr9
     have PA:=(zu PT).drew.app (p:=(z0,z1,z2)) hO (one_more wr.drew (.cells #[.int .i64 z0,.string z1,.string z2] 120)) gr9 o9
     have BL:∀j,(Value.slice a m c).ownBlock=some j→W.heap.size≤j:=fun j hj=>(World.ownsRow.lt (zu PT).ow j hj).1
     have BX9:=zh PA.1
     have P9:=zh PA.2
     have fr9:u9.frozen? ⟨u.heap.size,1,none⟩=false:=(zu BX9).free 1
     have bc9:=(zu BX9).c1
     have gs9:=gr9.size
     simp at gs9
     have KC:u9.cell? ⟨w.heap.size,1,none⟩=some (.slice (some ⟨g,0,none⟩) x.ps.length x.c)∧u9.cell? ⟨g,k*3,none⟩=some (.int .i64 z0)∧u9.cell? ⟨g,k*3+1,none⟩=some (.string z1)∧u9.cell? ⟨g,k*3+2,none⟩=some (.string z2):=⟨gr9.cell KB.1 (fun e=>by have:=BL _ e.symm;simp only at this;omega),gr9.cell KB.2.1 (fun e=>by have:=BL _ e.symm;simp only at this;omega),gr9.cell KB.2.2.1 (fun e=>by have:=BL _ e.symm;simp only at this;omega),gr9.cell KB.2.2.2 (fun e=>by have:=BL _ e.symm;simp only at this;omega)⟩
     have SB:=bc_set1 (zu BX9) (.slice (some ⟨g9,0,none⟩) (m+1) c9)
     have KD:(u9.setCell ⟨u.heap.size,1,none⟩ (.slice (some ⟨g9,0,none⟩) (m+1) c9)).cell? ⟨w.heap.size,1,none⟩=some (.slice (some ⟨g,0,none⟩) x.ps.length x.c)∧(u9.setCell ⟨u.heap.size,1,none⟩ (.slice (some ⟨g9,0,none⟩) (m+1) c9)).cell? ⟨g,k*3,none⟩=some (.int .i64 z0)∧(u9.setCell ⟨u.heap.size,1,none⟩ (.slice (some ⟨g9,0,none⟩) (m+1) c9)).cell? ⟨g,k*3+1,none⟩=some (.string z1)∧(u9.setCell ⟨u.heap.size,1,none⟩ (.slice (some ⟨g9,0,none⟩) (m+1) c9)).cell? ⟨g,k*3+2,none⟩=some (.string z2):=⟨(kcell SB.2 (1) (show w.heap.size<u9.heap.size from by omega) (show w.heap.size≠u.heap.size from by omega)).trans KC.1,(kcell SB.2 (k*3) (show g<u9.heap.size from by omega) gn).trans KC.2.1,(kcell SB.2 (k*3+1) (show g<u9.heap.size from by omega) gn).trans KC.2.2.1,(kcell SB.2 (k*3+2) (show g<u9.heap.size from by omega) gn).trans KC.2.2.2⟩
     clear o9 SB PA
     refine hK.out _ _ KC (fun hHeld=>?_)
     clear hK K
     try simp only[SClear15.oL8,Act.put,zA,zB,zC]
     refine wpAnyH_take (i:=9) (oi:=SClear15.oL9) (v:= .pointer (some ⟨u.heap.size,1,none⟩)) rfl (by kernel_rfl) (by kernel_rfl) (by kernel_rfl) (fun _ _ _ h=>h) (Or.inl ⟨by rfl,fun w hSw=>?_⟩) hHeld ?_
     ·(try dsimp only at hSw)
      unfold SClear15.oL9
      go_simp
     try simp only[SClear15.oL9,Act.put,zA,zB,zC]
     refine wpAnyH_ready (rs:=[10]) (by kernel_rfl) (by simp) ?_
     refine AllReadyH.cons (o:=SClear15.oL10) rfl (fun K hK=>?_) AllReadyH.nil
     unfold SClear15.oL10
     go_simp
     refine hK.out _ _ KD (fun hHeld=>?_)
     clear hK K
     try simp only[SClear15.oL10,Act.put,zA,zB,zC]
     refine wpAnyH_done (by kernel_rfl) ?_ _
     clear K0 KB KC KD gr9 bc bcD bcA bc9 fr9
     go_wp2
     go_roundw
     case rel=>exact⟨k+1,m+1,c9,some ⟨g9,0,none⟩,by go_num,by omega,by omega,by rw[zu TK];exact P9⟩
     case measure=>simp[intOf];omega
   |true=>
    cases kb with
    |true=>
     have TK:=zh (show(x.ps.take (k+1)).filter (stays ks)=L++[(z0,z1,z2)] by rw[zu TK0,zu ST];simp)
     clear TK0 ST
     go_wp2_with fail
     refine(sSegOk _ z0 true (zu SS)).mono ?_
     rintro e wr ⟨rfl,rfl⟩
     go_wp2_with fail
     refine(sHasO _ va ks.length ck ks z0 true rfl hk20 (zu AK) (zu KK)).mono ?_
     rintro e wr ⟨rfl,rfl⟩
     clear AK
     have K0:wr.cell? ⟨w.heap.size,1,none⟩=some (.slice (some ⟨g,0,none⟩) x.ps.length x.c)∧wr.cell? ⟨g,k*3,none⟩=some (.int .i64 z0)∧wr.cell? ⟨g,k*3+1,none⟩=some (.string z1)∧wr.cell? ⟨g,k*3+2,none⟩=some (.string z2):=⟨c1,d0,d1,d2⟩
     have KB:(wr.drew.alloc (.cells #[.int .i64 z0,.string z1,.string z2] 120)).cell? ⟨w.heap.size,1,none⟩=some (.slice (some ⟨g,0,none⟩) x.ps.length x.c)∧(wr.drew.alloc (.cells #[.int .i64 z0,.string z1,.string z2] 120)).cell? ⟨g,k*3,none⟩=some (.int .i64 z0)∧(wr.drew.alloc (.cells #[.int .i64 z0,.string z1,.string z2] 120)).cell? ⟨g,k*3+1,none⟩=some (.string z1)∧(wr.drew.alloc (.cells #[.int .i64 z0,.string z1,.string z2] 120)).cell? ⟨g,k*3+2,none⟩=some (.string z2):=⟨((one_more wr.drew (.cells #[.int .i64 z0,.string z1,.string z2] 120)).cell (p:=⟨w.heap.size,1,none⟩) (show w.heap.size<wr.heap.size from by omega)).trans c1,((one_more wr.drew (.cells #[.int .i64 z0,.string z1,.string z2] 120)).cell (p:=⟨g,k*3,none⟩) (show g<wr.heap.size from by omega)).trans d0,((one_more wr.drew (.cells #[.int .i64 z0,.string z1,.string z2] 120)).cell (p:=⟨g,k*3+1,none⟩) (show g<wr.heap.size from by omega)).trans d1,((one_more wr.drew (.cells #[.int .i64 z0,.string z1,.string z2] 120)).cell (p:=⟨g,k*3+2,none⟩) (show g<wr.heap.size from by omega)).trans d2⟩
     have bc:=(zu PT).bx.c1
     have bcD:wr.drew.cell? ⟨u.heap.size,1,none⟩=some (.slice a m c):=bc
     have bcA:(wr.alloc (.cells #[.int .i64 z0,.string z1,.string z2] 120)).cell? ⟨u.heap.size,1,none⟩=some (.slice a m c):=((one_more wr.drew (.cells #[.int .i64 z0,.string z1,.string z2] 120)).cell (p:=⟨u.heap.size,1,none⟩) (show u.heap.size<wr.heap.size from by omega)).trans bc
     go_wp2_with fail
     refine wp_region_held_drew (S:=(fun w'=>w'.cell? ⟨w.heap.size,1,none⟩=some (.slice (some ⟨g,0,none⟩) x.ps.length x.c)∧w'.cell? ⟨g,k*3,none⟩=some (.int .i64 z0)∧w'.cell? ⟨g,k*3+1,none⟩=some (.string z1)∧w'.cell? ⟨g,k*3+2,none⟩=some (.string z2))) (by kernel_rfl) K0 (fun hHeld=>?_)
     refine wpAnyH_take (i:=0) (oi:=SClear15.oL0) (v:= .pointer (some ⟨u.heap.size,1,none⟩)) rfl (by kernel_rfl) (by kernel_rfl) (by kernel_rfl) (fun _ _ _ h=>h) (Or.inl ⟨by rfl,fun w hSw=>?_⟩) hHeld ?_
     ·(try dsimp only at hSw)
      unfold SClear15.oL0
      go_simp
     try simp only[SClear15.oL0,Act.put,zA,zB,zC]
     refine wpAnyH_take (i:=2) (oi:=SClear15.oL2) (v:= .pointer (some ⟨w.heap.size,1,none⟩)) rfl (by kernel_rfl) (by kernel_rfl) (by kernel_rfl) (fun _ _ _ h=>h) (Or.inl ⟨by rfl,fun w hSw=>?_⟩) hHeld ?_
     ·(try dsimp only at hSw)
      unfold SClear15.oL2
      go_simp
     try simp only[SClear15.oL2,Act.put,zA,zB,zC]
     refine wpAnyH_take (i:=3) (oi:=SClear15.oL3) (v:= .slice (some ⟨g,0,none⟩) x.ps.length x.c) rfl (by kernel_rfl) (by kernel_rfl) (by kernel_rfl) (fun _ _ _ h=>h) (Or.inl ⟨by rfl,fun w hSw=>?_⟩) hHeld ?_
     ·(try dsimp only at hSw)
      unfold SClear15.oL3
      go_simp
     try simp only[SClear15.oL3,Act.put,zA,zB,zC]
     refine wpAnyH_take (i:=4) (oi:=SClear15.oL4) (v:= .int .i64 k) rfl (by kernel_rfl) (by kernel_rfl) (by kernel_rfl) (fun _ _ _ h=>h) (Or.inl ⟨by rfl,fun w hSw=>?_⟩) hHeld ?_
     ·(try dsimp only at hSw)
      unfold SClear15.oL4
      go_simp
     try simp only[SClear15.oL4,Act.put,zA,zB,zC]
     refine wpAnyH_take (i:=5) (oi:=SClear15.oL5) (v:= .pointer (some ⟨g,k*3,none⟩)) rfl (by kernel_rfl) (by kernel_rfl) (by kernel_rfl) (fun _ _ _ h=>h) (Or.inl ⟨by rfl,fun w hSw=>?_⟩) hHeld ?_
     ·(try dsimp only at hSw)
      unfold SClear15.oL5
      go_simp
     try simp only[SClear15.oL5,Act.put,zA,zB,zC]
     refine wpAnyH_take (i:=6) (oi:=SClear15.oL6) (v:= .agg #[.int .i64 z0,.string z1,.string z2]) rfl (by kernel_rfl) (by kernel_rfl) (by kernel_rfl) (fun _ _ _ h=>h) (Or.inl ⟨by rfl,fun w hSw=>?_⟩) hHeld ?_
     ·(try dsimp only at hSw)
      unfold SClear15.oL6
      go_simp
     try simp only[SClear15.oL6,Act.put,zA,zB,zC]
     refine wpAnyH_ready (rs:=[1,7]) (by kernel_rfl) (by simp) ?_
     refine AllReadyH.cons (o:=SClear15.oL1) rfl (fun K hK=>?_) (AllReadyH.cons (o:=SClear15.oL7) rfl (fun K hK=>?_) AllReadyH.nil)
     ·unfold SClear15.oL1
      go_simp
      refine hK.out _ _ K0 (fun hHeld=>?_)
      clear hK K
      try simp only[SClear15.oL1,Act.put,zA,zB,zC]
      refine wpAnyH_ready (rs:=[7]) (by kernel_rfl) (by simp) ?_
      refine AllReadyH.cons (o:=SClear15.oL7) rfl (fun K hK=>?_) AllReadyH.nil
      unfold SClear15.oL7
      go_simp
      refine hK.out _ _ KB (fun hHeld=>?_)
      clear hK K
      try simp only[SClear15.oL7,Act.put,zA,zB,zC]
      refine wpAnyH_ready (rs:=[8]) (by kernel_rfl) (by simp) ?_
      refine AllReadyH.cons (o:=SClear15.oL8) rfl (fun K hK=>?_) AllReadyH.nil
      refine step_app (wr.drew.alloc (.cells #[.int .i64 z0,.string z1,.string z2] 120)) (by rfl) _ _ 50 120 (by rfl) (.agg #[.int .i64 0,.string ByteArray.empty,.string ByteArray.empty]) 3 40 Tryz.underlying50 HelpF14.info2 rfl (by decide) (by decide) W.heap.size (.slice a m c) m (flatF L) wr.drew.heap.size [.int .i64 z0,.string z1,.string z2] (by rfl) (by rfl) (row_step (W:=wr.drew) (zu PT).ow (one_more wr.drew (.cells #[.int .i64 z0,.string z1,.string z2] 120))) rfl (litm wr.drew _ _ _ (by rfl)) (by simp[Value.oneCell']) (by omega) (Nat.le_trans (show W.heap.size≤wr.drew.heap.size from gs) (by simp)) ?_
      intro g9 c9 u9 o9 gr9
      have PA:=(zu PT).drew.app (p:=(z0,z1,z2)) hO (one_more wr.drew (.cells #[.int .i64 z0,.string z1,.string z2] 120)) gr9 o9
      have BL:∀j,(Value.slice a m c).ownBlock=some j→W.heap.size≤j:=fun j hj=>(World.ownsRow.lt (zu PT).ow j hj).1
      have BX9:=zh PA.1
      have P9:=zh PA.2
      have fr9:u9.frozen? ⟨u.heap.size,1,none⟩=false:=(zu BX9).free 1
      have bc9:=(zu BX9).c1
      have gs9:=gr9.size
      simp at gs9
      have KC:u9.cell? ⟨w.heap.size,1,none⟩=some (.slice (some ⟨g,0,none⟩) x.ps.length x.c)∧u9.cell? ⟨g,k*3,none⟩=some (.int .i64 z0)∧u9.cell? ⟨g,k*3+1,none⟩=some (.string z1)∧u9.cell? ⟨g,k*3+2,none⟩=some (.string z2):=⟨gr9.cell KB.1 (fun e=>by have:=BL _ e.symm;simp only at this;omega),gr9.cell KB.2.1 (fun e=>by have:=BL _ e.symm;simp only at this;omega),gr9.cell KB.2.2.1 (fun e=>by have:=BL _ e.symm;simp only at this;omega),gr9.cell KB.2.2.2 (fun e=>by have:=BL _ e.symm;simp only at this;omega)⟩
      have SB:=bc_set1 (zu BX9) (.slice (some ⟨g9,0,none⟩) (m+1) c9)
      have KD:(u9.setCell ⟨u.heap.size,1,none⟩ (.slice (some ⟨g9,0,none⟩) (m+1) c9)).cell? ⟨w.heap.size,1,none⟩=some (.slice (some ⟨g,0,none⟩) x.ps.length x.c)∧(u9.setCell ⟨u.heap.size,1,none⟩ (.slice (some ⟨g9,0,none⟩) (m+1) c9)).cell? ⟨g,k*3,none⟩=some (.int .i64 z0)∧(u9.setCell ⟨u.heap.size,1,none⟩ (.slice (some ⟨g9,0,none⟩) (m+1) c9)).cell? ⟨g,k*3+1,none⟩=some (.string z1)∧(u9.setCell ⟨u.heap.size,1,none⟩ (.slice (some ⟨g9,0,none⟩) (m+1) c9)).cell? ⟨g,k*3+2,none⟩=some (.string z2):=⟨(kcell SB.2 (1) (show w.heap.size<u9.heap.size from by omega) (show w.heap.size≠u.heap.size from by omega)).trans KC.1,(kcell SB.2 (k*3) (show g<u9.heap.size from by omega) gn).trans KC.2.1,(kcell SB.2 (k*3+1) (show g<u9.heap.size from by omega) gn).trans KC.2.2.1,(kcell SB.2 (k*3+2) (show g<u9.heap.size from by omega) gn).trans KC.2.2.2⟩
      clear o9 SB PA
      refine hK.out _ _ KC (fun hHeld=>?_)
      clear hK K
      try simp only[SClear15.oL8,Act.put,zA,zB,zC]
      refine wpAnyH_take (i:=9) (oi:=SClear15.oL9) (v:= .pointer (some ⟨u.heap.size,1,none⟩)) rfl (by kernel_rfl) (by kernel_rfl) (by kernel_rfl) (fun _ _ _ h=>h) (Or.inl ⟨by rfl,fun w hSw=>?_⟩) hHeld ?_
      ·(try dsimp only at hSw)
       unfold SClear15.oL9
       go_simp
      try simp only[SClear15.oL9,Act.put,zA,zB,zC]
      refine wpAnyH_ready (rs:=[10]) (by kernel_rfl) (by simp) ?_
      refine AllReadyH.cons (o:=SClear15.oL10) rfl (fun K hK=>?_) AllReadyH.nil
      unfold SClear15.oL10
      go_simp
      refine hK.out _ _ KD (fun hHeld=>?_)
      clear hK K
      try simp only[SClear15.oL10,Act.put,zA,zB,zC]
      refine wpAnyH_done (by kernel_rfl) ?_ _
      clear K0 KB KC KD gr9 bc bcD bcA bc9 fr9
      go_wp2
      go_roundw
      case rel=>exact⟨k+1,m+1,c9,some ⟨g9,0,none⟩,by go_num,by omega,by omega,by rw[zu TK];exact P9⟩
      case measure=>simp[intOf];omega
     ·unfold SClear15.oL7
      go_simp
      refine hK.out _ _ KB (fun hHeld=>?_)
      clear hK K
      try simp only[SClear15.oL7,Act.put,zA,zB,zC]
      refine wpAnyH_ready (rs:=[1]) (by kernel_rfl) (by simp) ?_
      refine AllReadyH.cons (o:=SClear15.oL1) rfl (fun K hK=>?_) AllReadyH.nil
      unfold SClear15.oL1
      go_simp
      refine hK.out _ _ KB (fun hHeld=>?_)
      clear hK K
      try simp only[SClear15.oL1,Act.put,zA,zB,zC]
      refine wpAnyH_ready (rs:=[8]) (by kernel_rfl) (by simp) ?_
      refine AllReadyH.cons (o:=SClear15.oL8) rfl (fun K hK=>?_) AllReadyH.nil
      refine step_app (wr.drew.alloc (.cells #[.int .i64 z0,.string z1,.string z2] 120)) (by rfl) _ _ 50 120 (by rfl) (.agg #[.int .i64 0,.string ByteArray.empty,.string ByteArray.empty]) 3 40 Tryz.underlying50 HelpF14.info2 rfl (by decide) (by decide) W.heap.size (.slice a m c) m (flatF L) wr.drew.heap.size [.int .i64 z0,.string z1,.string z2] (by rfl) (by rfl) (row_step (W:=wr.drew) (zu PT).ow (one_more wr.drew (.cells #[.int .i64 z0,.string z1,.string z2] 120))) rfl (litm wr.drew _ _ _ (by rfl)) (by simp[Value.oneCell']) (by omega) (Nat.le_trans (show W.heap.size≤wr.drew.heap.size from gs) (by simp)) ?_
      intro g9 c9 u9 o9 gr9
      have PA:=(zu PT).drew.app (p:=(z0,z1,z2)) hO (one_more wr.drew (.cells #[.int .i64 z0,.string z1,.string z2] 120)) gr9 o9
      have BL:∀j,(Value.slice a m c).ownBlock=some j→W.heap.size≤j:=fun j hj=>(World.ownsRow.lt (zu PT).ow j hj).1
      have BX9:=zh PA.1
      have P9:=zh PA.2
      have fr9:u9.frozen? ⟨u.heap.size,1,none⟩=false:=(zu BX9).free 1
      have bc9:=(zu BX9).c1
      have gs9:=gr9.size
      simp at gs9
      have KC:u9.cell? ⟨w.heap.size,1,none⟩=some (.slice (some ⟨g,0,none⟩) x.ps.length x.c)∧u9.cell? ⟨g,k*3,none⟩=some (.int .i64 z0)∧u9.cell? ⟨g,k*3+1,none⟩=some (.string z1)∧u9.cell? ⟨g,k*3+2,none⟩=some (.string z2):=⟨gr9.cell KB.1 (fun e=>by have:=BL _ e.symm;simp only at this;omega),gr9.cell KB.2.1 (fun e=>by have:=BL _ e.symm;simp only at this;omega),gr9.cell KB.2.2.1 (fun e=>by have:=BL _ e.symm;simp only at this;omega),gr9.cell KB.2.2.2 (fun e=>by have:=BL _ e.symm;simp only at this;omega)⟩
      have SB:=bc_set1 (zu BX9) (.slice (some ⟨g9,0,none⟩) (m+1) c9)
      have KD:(u9.setCell ⟨u.heap.size,1,none⟩ (.slice (some ⟨g9,0,none⟩) (m+1) c9)).cell? ⟨w.heap.size,1,none⟩=some (.slice (some ⟨g,0,none⟩) x.ps.length x.c)∧(u9.setCell ⟨u.heap.size,1,none⟩ (.slice (some ⟨g9,0,none⟩) (m+1) c9)).cell? ⟨g,k*3,none⟩=some (.int .i64 z0)∧(u9.setCell ⟨u.heap.size,1,none⟩ (.slice (some ⟨g9,0,none⟩) (m+1) c9)).cell? ⟨g,k*3+1,none⟩=some (.string z1)∧(u9.setCell ⟨u.heap.size,1,none⟩ (.slice (some ⟨g9,0,none⟩) (m+1) c9)).cell? ⟨g,k*3+2,none⟩=some (.string z2):=⟨(kcell SB.2 (1) (show w.heap.size<u9.heap.size from by omega) (show w.heap.size≠u.heap.size from by omega)).trans KC.1,(kcell SB.2 (k*3) (show g<u9.heap.size from by omega) gn).trans KC.2.1,(kcell SB.2 (k*3+1) (show g<u9.heap.size from by omega) gn).trans KC.2.2.1,(kcell SB.2 (k*3+2) (show g<u9.heap.size from by omega) gn).trans KC.2.2.2⟩
      clear o9 SB PA
      refine hK.out _ _ KC (fun hHeld=>?_)
      clear hK K
      try simp only[SClear15.oL8,Act.put,zA,zB,zC]
      refine wpAnyH_take (i:=9) (oi:=SClear15.oL9) (v:= .pointer (some ⟨u.heap.size,1,none⟩)) rfl (by kernel_rfl) (by kernel_rfl) (by kernel_rfl) (fun _ _ _ h=>h) (Or.inl ⟨by rfl,fun w hSw=>?_⟩) hHeld ?_
      ·(try dsimp only at hSw)
       unfold SClear15.oL9
       go_simp
      try simp only[SClear15.oL9,Act.put,zA,zB,zC]
      refine wpAnyH_ready (rs:=[10]) (by kernel_rfl) (by simp) ?_
      refine AllReadyH.cons (o:=SClear15.oL10) rfl (fun K hK=>?_) AllReadyH.nil
      unfold SClear15.oL10
      go_simp
      refine hK.out _ _ KD (fun hHeld=>?_)
      clear hK K
      try simp only[SClear15.oL10,Act.put,zA,zB,zC]
      refine wpAnyH_done (by kernel_rfl) ?_ _
      clear K0 KB KC KD gr9 bc bcD bcA bc9 fr9
      go_wp2
      go_roundw
      case rel=>exact⟨k+1,m+1,c9,some ⟨g9,0,none⟩,by go_num,by omega,by omega,by rw[zu TK];exact P9⟩
      case measure=>simp[intOf];omega
    |false=>
     have TK:=zh (show(x.ps.take (k+1)).filter (stays ks)=L by rw[zu TK0,zu ST];simp)
     clear TK0 ST
     go_wp2_with fail
     refine(sSegOk _ z0 true (zu SS)).mono ?_
     rintro e wr ⟨rfl,rfl⟩
     go_wp2_with fail
     refine(sHasO _ va ks.length ck ks z0 false rfl hk20 (zu AK) (zu KK)).mono ?_
     rintro e wr ⟨rfl,rfl⟩
     clear AK
     go_wp2
     go_roundw
     case rel=>exact⟨k+1,m,c,a,by go_num,by omega,by omega,by rw[zu TK];exact PT⟩
     case measure=>simp[intOf];omega
  ·have e:k=x.ps.length:=by omega
   subst e
   have TL:=zh (show(x.ps.take x.ps.length).filter (stays ks)=x.ps.filter (stays ks) by rw[List.take_length])
   generalize (x.ps.take x.ps.length).filter (stays ks)=L at *
   have B0:=(zu PT).bx.c0
   have B1:=(zu PT).bx.c1
   have Rk:=zh ((zu R3).kept (zu PT).gr (by simp;omega))
   have f0:=(zu Rk).free 0
   have f1:=(zu Rk).free 1
   have r0:=(zu Rk).c0
   have r1:=(zu Rk).c1
   have LM:=zh (show L.length=m by
    have:=(zu PT).ow.1
    rw[flatF_len] at this
    omega)
   have BB:=zh (grow_low (zu W3).b (zu PT).gr ⟨by omega,by omega⟩)
   have EN:=zh (endedD (y:=⟨x.room,a,c,L⟩) (base0:=W.heap.size) (zu BB) (zu Rk) (by unfold OwD;simp only[zu LM];exact(zu PT).ow) (by omega))
   simp only[zu LM] at EN
   go_wp2
   refine bodyPost_ret (v:= .agg #[.int .i64 x.room,.slice a m c]) (by simp[results,Tryz.results42,go_sem,r0,r1]) rfl ⟨⟨x.room,a,c,L⟩,by rw[zu TL],by simp[zu LM],(zu EN).1,(zu EN).2⟩
end SClear16
namespace SAppend14
open Fil14 OpensF14 DiskH14 DkH14 SDk14 SOk14 SRd14 App14 SLess14 SCopy14 SRef14 SCom14 SPut14
open DkH14 (row_step)
def appF(ps:List TF)(nm:Int)(s:ByteArray):TF:=if 0≤findF ps nm then((elF ps (findF ps nm).toNat).1,(elF ps (findF ps nm).toNat).2.1,(elF ps (findF ps nm).toNat).2.2++s) else(nm,⟨#[]⟩,s)
noncomputable def appendD (room:Int) (ps:List TF) (nm:Int) (s:ByteArray):(Int×List TF)×Int:= @ite _ (OkD room ps∧okN nm=true) (Classical.propDecidable _) (if room-sumZ ps<s.size then((room,ps),3) else((room,putF ps (appF ps nm s)),0)) ((0,[]),1)
abbrev oD0:Oper:={dst:=some 21,op:=Go.Op.move (Go.Operand.tmp 2),type:=9,pos:= "l14_disk.go:82",after:= #[],guard:=none}
abbrev oD1:Oper:={dst:=some 22,op:=Go.Op.call {callee:=Go.Callee.builtin Go.Builtin.len,args:= #[Go.Operand.tmp 21],argTypes:= #[9]},type:=3,pos:= "l14_disk.go:82",after:= #[{on:=0,ground:=Go.Ground.data}],guard:=none}
abbrev oD2:Oper:={dst:=some 23,op:=Go.Op.fieldAddr 52 (Go.Operand.tmp 3) 0,type:=0,pos:= "l14_disk.go:82",after:= #[],guard:=none}
abbrev oD3:Oper:={dst:=some 24,op:=Go.Op.load 3 (Go.Operand.tmp 23),type:=3,pos:= "l14_disk.go:82",after:= #[{on:=2,ground:=Go.Ground.data}],guard:=none}
abbrev oD4:Oper:={dst:=some 25,op:=Go.Op.load 52 (Go.Operand.tmp 3),type:=52,pos:= "l14_disk.go:82",after:= #[],guard:=none}
abbrev oD5:Oper:={dst:=some 26,op:=Go.Op.call {callee:=Go.Callee.value (Go.Operand.func 75),args:= #[Go.Operand.tmp 25],argTypes:= #[52]},type:=3,pos:= "l14_disk.go:82",after:= #[{on:=4,ground:=Go.Ground.data}],guard:=none}
abbrev oD6:Oper:={dst:=some 27,op:=Go.Op.binOp Go.BinOp.sub 3 (Go.Operand.tmp 24) (Go.Operand.tmp 26) 3,type:=3,pos:= "l14_disk.go:82",after:= #[{on:=3,ground:=Go.Ground.data},{on:=5,ground:=Go.Ground.data}],guard:=none}
abbrev oD7:Oper:={dst:=some 28,op:=Go.Op.binOp Go.BinOp.gtr 3 (Go.Operand.tmp 22) (Go.Operand.tmp 27) 3,type:=4,pos:= "l14_disk.go:82",after:= #[{on:=1,ground:=Go.Ground.data},{on:=6,ground:=Go.Ground.data}],guard:=none}
abbrev oD8:Oper:={dst:=some 20,op:=Go.Op.assign (Go.Operand.tmp 28),type:=4,pos:= "l14_disk.go:82",after:= #[{on:=7,ground:=Go.Ground.data},{on:=5,ground:=Go.Ground.chain}],guard:=none}
theorem sDiskAppend(w:World)(x:Dx)(nm:Int)(s:ByteArray)(hr:RdD w x)(hz:sumZ x.ps≤1048576)(hs:s.size≤9223372036854775807):
  Calls Tryz.prog 38 #[.agg #[.int .i64 x.room,.slice x.a x.ps.length x.c],.int .i64 nm,.string s] w (ToldD (appendD x.room x.ps nm s) w):=by
 have HR:=zh hr
 have G0:=zh (begunD hr)
 have s2:((w.alloc (.cells #[.int .i64 x.room,.slice x.a x.ps.length x.c] 52)).alloc (.cells #[.int .i64 0,.slice none 0 0] 52)).heap.size=w.heap.size+2:=by simp
 have OK0:=zh (sDiskOk _ x (zu G0).1.r hz)
 have NM:=zh (fun u=>sName u nm)
 have RE:=zh (show appendD x.room x.ps nm s= @ite _ (OkD x.room x.ps∧okN nm=true) (Classical.propDecidable _) (if x.room-sumZ x.ps<s.size then((x.room,x.ps),3) else((x.room,putF x.ps (appF x.ps nm s)),0)) ((0,[]),1) from rfl)
 generalize appendD x.room x.ps nm s=rr at *
 clear hr
 by_cases ok:OkD x.room x.ps
 case neg=>
  have E:=zh (show rr=((0,[]),1) by rw[zu RE,if_neg (fun h=>ok h.1)])
  have OK:=zh (show Calls Tryz.prog 34 #[.agg #[.int .i64 x.room,.slice x.a x.ps.length x.c]] _ fun e w'=>e= .returned (.bool false)∧Below _ _ w' by have:=zu OK0;rw[decide_eq_false ok] at this;exact this)
  clear OK0 ok RE
  go_enter Tryz.func38,Tryz.ntmps38
  go_wp2_with fail
  refine(zu OK).mono ?_
  rintro e u ⟨rfl,b1⟩
  have R2:=zh ((zu G0).2.below b1 (by omega))
  have EN:=zh (endedD (y:=⟨0,none,0,[]⟩) (base0:=w.heap.size+2) (((zu G0).1.step b1).b) (zu R2) ⟨rfl,.inl ⟨rfl,rfl⟩⟩ (by omega))
  have f0:=(zu R2).free 0
  have f1:=(zu R2).free 1
  have r0:=(zu R2).c0
  have r1:=(zu R2).c1
  clear b1
  go_wp2
  refine bodyPost_ret (v:= .tuple #[.agg #[.int .i64 0,.slice none 0 0],.int .i64 1]) (by simp[results,Tryz.results38,go_sem,r0,r1]) rfl ?_
  rw[zu E]
  exact⟨⟨0,none,0,[]⟩,rfl,rfl,(zu EN).1,(zu EN).2⟩
 have OK:=zh (show Calls Tryz.prog 34 #[.agg #[.int .i64 x.room,.slice x.a x.ps.length x.c]] _ fun e w'=>e= .returned (.bool true)∧Below _ _ w' by have:=zu OK0;rw[decide_eq_true ok] at this;exact this)
 clear OK0
 have OKH:=zh ok
 cases okn:okN nm with
 |false=>
  have E:=zh (show rr=((0,[]),1) by rw[zu RE,if_neg (fun h=>by rw[okn] at h;simp at h)])
  rw[okn] at NM
  clear RE ok
  go_enter Tryz.func38,Tryz.ntmps38
  go_wp2_with fail
  refine(zu OK).mono ?_
  rintro e u0 ⟨rfl,b1⟩
  have R2:=zh ((zu G0).2.below b1 (by omega))
  have EN:=zh (endedD (y:=⟨0,none,0,[]⟩) (base0:=w.heap.size+2) (((zu G0).1.step b1).b) (zu R2) ⟨rfl,.inl ⟨rfl,rfl⟩⟩ (by omega))
  clear b1
  go_wp2_with fail
  refine((zu NM) u0).mono ?_
  rintro e u ⟨rfl,rfl⟩
  have f0:=(zu R2).free 0
  have f1:=(zu R2).free 1
  have r0:=(zu R2).c0
  have r1:=(zu R2).c1
  go_wp2
  refine bodyPost_ret (v:= .tuple #[.agg #[.int .i64 0,.slice none 0 0],.int .i64 1]) (by simp[results,Tryz.results38,go_sem,r0,r1]) rfl ?_
  rw[zu E]
  exact⟨⟨0,none,0,[]⟩,rfl,rfl,(zu EN).1,(zu EN).2⟩
 |true=>
  rw[okn] at NM
  obtain⟨b,hb⟩:∃b,decide (x.room-(sumZ x.ps:Int)<(s.size:Int))=b:=⟨_,rfl⟩
  have HB:=zh hb
  have z0:=ok.1
  have z1:=ok.2.2.1
  have wr1:wrap64 (x.room-(sumZ x.ps:Int))=x.room-(sumZ x.ps:Int):=by rw[wrap64];omega
  have wr2:IntKind.i64.wrap (x.room-(sumZ x.ps:Int))=x.room-(sumZ x.ps:Int):=by rw[IntKind.wrap_i64];omega
  go_enter Tryz.func38,Tryz.ntmps38
  go_wp2_with fail
  generalize (w.alloc (.cells #[.int .i64 x.room,.slice x.a x.ps.length x.c] 52)).alloc (.cells #[.int .i64 0,.slice none 0 0] 52)=W at *
  refine(zu OK).mono ?_
  rintro e u0 ⟨rfl,b1⟩
  have W1:=zh ((zu G0).1.step b1)
  have R1:=zh ((zu G0).2.below b1 (by omega))
  have us:=b1.size
  clear b1 OK G0
  go_wp2_with fail
  refine((zu NM) u0).mono ?_
  rintro e u ⟨rfl,rfl⟩
  clear NM
  have c0:=(zu W1).c0
  have c1:=(zu W1).c1
  have K0:u.cell? ⟨w.heap.size,0,none⟩=some (.int .i64 x.room)∧u.cell? ⟨w.heap.size,1,none⟩=some (.slice x.a x.ps.length x.c):=⟨c0,c1⟩
  go_wp2_with fail
  refine wp_region_held_drew (S:=(fun w'=>w'.cell? ⟨w.heap.size,0,none⟩=some (.int .i64 x.room)∧w'.cell? ⟨w.heap.size,1,none⟩=some (.slice x.a x.ps.length x.c))) (by kernel_rfl) K0 (fun hHeld=>?_)
  refine tk 0 oD0 (.string s) rfl (by kernel_rfl) (fun _ _ _ h=>h) (by rfl) (fun w hSw=>?_) hHeld ?_
  ·(try dsimp only at hSw)
   unfold oD0
   go_simp
  try simp only[oD0,Act.put,zA,zB,zC]
  refine tk 1 oD1 (.int .i64 s.size) rfl (by kernel_rfl) (fun _ _ _ h=>h) (by rfl) (fun w hSw=>?_) hHeld ?_
  ·(try dsimp only at hSw)
   unfold oD1
   go_simp
  try simp only[oD1,Act.put,zA,zB,zC]
  refine tk 2 oD2 (.pointer (some ⟨w.heap.size,0,none⟩)) rfl (by kernel_rfl) (fun _ _ _ h=>h) (by rfl) (fun w hSw=>?_) hHeld ?_
  ·(try dsimp only at hSw)
   unfold oD2
   go_simp
  try simp only[oD2,Act.put,zA,zB,zC]
  refine tk 3 oD3 (.int .i64 x.room) rfl (by kernel_rfl) (fun _ _ _ h=>h) (by rfl) (fun w hSw=>?_) hHeld ?_
  ·(try dsimp only at hSw)
   unfold oD3
   go_simp
  try simp only[oD3,Act.put,zA,zB,zC]
  refine tk 4 oD4 (.agg #[.int .i64 x.room,.slice x.a x.ps.length x.c]) rfl (by kernel_rfl) (fun _ _ _ h=>h) (by rfl) (fun w hSw=>?_) hHeld ?_
  ·(try dsimp only at hSw)
   unfold oD4
   go_simp
  try simp only[oD4,Act.put,zA,zB,zC]
  refine wpAnyH_ready (rs:=[5]) (by kernel_rfl) (by simp) ?_
  refine AllReadyH.cons (o:=oD5) rfl (fun K hK=>?_) AllReadyH.nil
  unfold oD5
  go_simp
  go_wp2_with fail
  refine(sSize u.drew x (zu W1).drew.r hz).mono ?_
  rintro e v ⟨rfl,bb⟩
  have bb1:Below u.heap.size u v:=⟨bb.os,bb.tape,bb.output,bb.size,bb.block⟩
  have W4:=zh ((zu W1).step bb1)
  have R4:=zh ((zu R1).below bb1 (zu R1).lt.2)
  have K1:v.cell? ⟨w.heap.size,0,none⟩=some (.int .i64 x.room)∧v.cell? ⟨w.heap.size,1,none⟩=some (.slice x.a x.ps.length x.c):=⟨(zu W4).c0,(zu W4).c1⟩
  have vs:=bb1.size
  clear bb bb1
  go_wp2_with fail
  refine hK.out _ _ K1 (fun hHeld=>?_)
  clear hK K
  try simp only[oD5,Act.put,zA,zB,zC]
  refine tk 6 oD6 (.int .i64 (x.room-sumZ x.ps)) rfl (by kernel_rfl) (fun _ _ _ h=>h) (by rfl) (fun w hSw=>?_) hHeld ?_
  ·(try dsimp only at hSw)
   unfold oD6
   go_simp
  try simp only[oD6,Act.put,zA,zB,zC]
  refine tk 7 oD7 (.bool b) rfl (by kernel_rfl) (fun _ _ _ h=>h) (by rfl) (fun w hSw=>?_) hHeld ?_
  ·(try dsimp only at hSw)
   unfold oD7
   go_simp
  try simp only[oD7,Act.put,zA,zB,zC]
  refine tk 8 oD8 (.bool b) rfl (by kernel_rfl) (fun _ _ _ h=>h) (by rfl) (fun w hSw=>?_) hHeld ?_
  ·(try dsimp only at hSw)
   unfold oD8
   go_simp
  try simp only[oD8,Act.put,zA,zB,zC]
  refine wpAnyH_done (by kernel_rfl) ?_ _
  clear c0 c1 hb wr1 wr2 z0 z1
  have W5:=W4
  have R5:=R4
  cases b with
  |true=>
   have E:=zh (show rr=((x.room,x.ps),3) by rw[zu RE,if_pos ⟨ok,okn⟩,if_pos (by simpa using zu HB)])
   have d0:=(zu W4).c0
   have d1:=(zu W4).c1
   clear K0 K1
   go_wp2_with fail
   refine(sCopy _ x (zu W5).r).mono ?_
   rintro e u2 ⟨y,yr,yp,rfl,oy,b2⟩
   have HY:=zh (show(y.room,y.ps)=(x.room,x.ps) by rw[yr,yp])
   have R2:=zh ((zu R5).below b2 (zu R5).lt.2)
   have EN:=zh (endedD ((zu W5).b.trans (b2.mono (zu W5).b.size)) (zu R2) oy (zu R5).lt.2)
   have f0:=(zu R2).free 0
   have f1:=(zu R2).free 1
   have r0:=(zu R2).c0
   have r1:=(zu R2).c1
   clear b2 oy yr yp d0 d1
   go_wp2
   refine bodyPost_ret (v:= .tuple #[.agg #[.int .i64 y.room,.slice y.a y.ps.length y.c],.int .i64 3]) (by simp[results,Tryz.results38,go_sem,r0,r1]) rfl ?_
   rw[zu E]
   exact⟨y,zu HY,rfl,(zu EN).1,(zu EN).2⟩
  |false=>
   have RE2:=zh (show rr=((x.room,putF x.ps (appF x.ps nm s)),0) by rw[zu RE,if_pos ⟨ok,okn⟩,if_neg (by have:=zu HB;simpa using this)])
   have sr:(s.size:Int)≤x.room-sumZ x.ps:=by have:=zu HB;simpa using this
   clear RE HB
   obtain⟨V3,hV3⟩:∃V3,Hid (V3=v.alloc (.cells #[.int .i64 nm,.string ⟨#[]⟩,.string ⟨#[]⟩] 120)):=⟨_,rfl⟩
   have b3:=zh (show Below v.heap.size v V3 by rw[zu hV3];exact one_more _ _)
   have W6:=zh ((zu W5).step (zu b3))
   have R6:=zh ((zu R5).below (zu b3) (zu R5).lt.2)
   have F6:=zh (show OwnF 120 V3 w.heap.size v.heap.size 1 1 [(nm,⟨#[]⟩,⟨#[]⟩)] by rw[zu hV3];exact litF1 _ _ _ _ _ _ (by have:=(zu W5).lt;omega))
   have d0:=(zu W6).c0
   have d1:=(zu W6).c1
   have e0:v.cell? ⟨w.heap.size,0,none⟩=some (.int .i64 x.room):=(zu W5).c0
   have e1:v.cell? ⟨w.heap.size,1,none⟩=some (.slice x.a x.ps.length x.c):=(zu W5).c1
   have wl:=(zu W5).lt
   go_wp2_with fail
   rw[←zu hV3]
   clear e0 e1 hV3
   refine(sFind V3 x nm (zu W6).r).mono ?_
   rintro e u3 ⟨rfl,b4⟩
   have W7:=zh ((zu W6).step b4)
   have R7:=zh ((zu R6).below b4 (zu R6).lt.2)
   have F7:=zh ((zu F6).below b4 (by have:=(zu F6).lt;omega))
   have v7:=b4.size
   have fl:=(zu F6).lt
   clear b4 W6 R6 F6 d0 d1
   have FI:=zh (findF_in (ps:=x.ps) (nm:=nm))
   have RF:=zh (show appF x.ps nm s=if 0≤findF x.ps nm then((elF x.ps (findF x.ps nm).toNat).1,(elF x.ps (findF x.ps nm).toNat).2.1,(elF x.ps (findF x.ps nm).toNat).2.2++s) else(nm,⟨#[]⟩,s) from rfl)
   generalize appF x.ps nm s=ff at *
   generalize findF x.ps nm=fi at *
   have q0:u3.cell? ⟨v.heap.size,0,none⟩=some (.int .i64 nm):=((zu F7).at 0 (by simp)).1
   have q1:u3.cell? ⟨v.heap.size,1,none⟩=some (.string ⟨#[]⟩):=((zu F7).at 0 (by simp)).2.1
   have q2:u3.cell? ⟨v.heap.size,2,none⟩=some (.string ⟨#[]⟩):=((zu F7).at 0 (by simp)).2.2
   have x0:=(zu F7).free 0
   have x1:=(zu F7).free 1
   have x2:=(zu F7).free 2
   have z60:=ok.1.2
   by_cases fn:0≤fi
   ·obtain⟨k,rfl,kl,en⟩:=(zu FI) fn
    have kt:(k:Int)<x.ps.length:=by omega
    obtain⟨g,ea,lg,h0,h1,h2⟩:=cells_of (zu W7).r kl
    have ix:=ixF x.c ea kl
    have NX:=sumZ_next kl
    have LE:=sumZ_le x.ps (k+1)
    have ES:=zh (show ff=((elF x.ps k).1,(elF x.ps k).2.1,(elF x.ps k).2.2++s) by rw[zu RF,if_pos fn];rfl)
    have s1:(elF x.ps k).2.1.size+(elF x.ps k).2.2.size≤1048576:=by omega
    clear FI RF en ea NX LE
    generalize (elF x.ps k).1=z0 at *
    generalize (elF x.ps k).2.1=z1 at *
    generalize (elF x.ps k).2.2=z2 at *
    have s3:z2.size+s.size≤9223372036854775807:=by omega
    obtain⟨o1,g1⟩:=(zu F7).set0 0 z0
    obtain⟨o2,g2⟩:=o1.set1 0 z1
    obtain⟨o3,g3⟩:=o2.set2 0 z2
    obtain⟨o4,g4⟩:=o3.set2 0 (z2++s)
    have GG:=zh (grow_grow (grow_grow (grow_grow g1 g2) g3) g4)
    have q3:(((u3.setCell ⟨v.heap.size,0,none⟩ (.int .i64 z0)).setCell ⟨v.heap.size,1,none⟩ (.string z1)).setCell ⟨v.heap.size,2,none⟩ (.string z2)).cell? ⟨v.heap.size,2,none⟩=some (.string z2):=(o3.at 0 (by simp)).2.2
    have d0:=(zu W7).c0
    have d1:=(zu W7).c1
    have B7:=zh (grow_low (zu W7).b (zu GG) ⟨by omega,(zu W7).b.size⟩)
    have W5:=zh (show Wd w ((((u3.setCell ⟨v.heap.size,0,none⟩ (.int .i64 z0)).setCell ⟨v.heap.size,1,none⟩ (.string z1)).setCell ⟨v.heap.size,2,none⟩ (.string z2)).setCell ⟨v.heap.size,2,none⟩ (.string (z2++s))) x from⟨(kcell (zu GG) 0 (zu W7).lt (by omega)).trans d0,(kcell (zu GG) 1 (zu W7).lt (by omega)).trans d1,Nat.lt_of_lt_of_le (zu W7).lt (zu GG).size,zu B7,(zu HR).below (zu B7)⟩)
    have R5:=zh (show Bc ((((u3.setCell ⟨v.heap.size,0,none⟩ (.int .i64 z0)).setCell ⟨v.heap.size,1,none⟩ (.string z1)).setCell ⟨v.heap.size,2,none⟩ (.string z2)).setCell ⟨v.heap.size,2,none⟩ (.string (z2++s))) w.heap.size (w.heap.size+1) (.int .i64 0) (.slice none 0 0) from(zu R7).kept (zu GG) (by simp;omega))
    have gsz:=(zu GG).size
    clear o1 o2 o3 o4 g1 g2 g3 g4
    go_wp2_with fail
    refine(sPut _ x z0 z1 (z2++s) (zu W5).r ok.2.1).mono ?_
    rintro e u2 ⟨y,yr,yp,rfl,oy,b2⟩
    have E:=RE2
    have HY:=zh (show(y.room,y.ps)=(x.room,putF x.ps ff) by rw[yr,yp,zu ES])
    have R2:=zh ((zu R5).below b2 (zu R5).lt.2)
    have EN:=zh (endedD ((zu W5).b.trans (b2.mono (zu W5).b.size)) (zu R2) oy (zu R5).lt.2)
    have f0:=(zu R2).free 0
    have f1:=(zu R2).free 1
    have r0:=(zu R2).c0
    have r1:=(zu R2).c1
    clear b2 oy yr yp
    go_wp2
    refine bodyPost_ret (v:= .tuple #[.agg #[.int .i64 y.room,.slice y.a y.ps.length y.c],.int .i64 0]) (by simp[results,Tryz.results38,go_sem,r0,r1]) rfl ?_
    rw[zu E]
    exact⟨y,zu HY,rfl,(zu EN).1,(zu EN).2⟩
   ·have ES:=zh (show ff=(nm,⟨#[]⟩,s) by rw[zu RF,if_neg fn])
    clear FI RF
    have s3:s.size≤9223372036854775807:=by omega
    obtain⟨o3,g3⟩:=(zu F7).set2 0 s
    have GG:=zh g3
    have d0:=(zu W7).c0
    have d1:=(zu W7).c1
    have B7:=zh (grow_low (zu W7).b (zu GG) ⟨by omega,(zu W7).b.size⟩)
    have W5:=zh (show Wd w (u3.setCell ⟨v.heap.size,2,none⟩ (.string s)) x from⟨(kcell (zu GG) 0 (zu W7).lt (by omega)).trans d0,(kcell (zu GG) 1 (zu W7).lt (by omega)).trans d1,Nat.lt_of_lt_of_le (zu W7).lt (zu GG).size,zu B7,(zu HR).below (zu B7)⟩)
    have R5:=zh (show Bc (u3.setCell ⟨v.heap.size,2,none⟩ (.string s)) w.heap.size (w.heap.size+1) (.int .i64 0) (.slice none 0 0) from(zu R7).kept (zu GG) (by simp;omega))
    have gsz:=(zu GG).size
    clear o3 g3
    go_wp2_with fail
    refine(sPut _ x nm ⟨#[]⟩ s (zu W5).r ok.2.1).mono ?_
    rintro e u2 ⟨y,yr,yp,rfl,oy,b2⟩
    have E:=RE2
    have HY:=zh (show(y.room,y.ps)=(x.room,putF x.ps ff) by rw[yr,yp,zu ES])
    have R2:=zh ((zu R5).below b2 (zu R5).lt.2)
    have EN:=zh (endedD ((zu W5).b.trans (b2.mono (zu W5).b.size)) (zu R2) oy (zu R5).lt.2)
    have f0:=(zu R2).free 0
    have f1:=(zu R2).free 1
    have r0:=(zu R2).c0
    have r1:=(zu R2).c1
    clear b2 oy yr yp
    go_wp2
    refine bodyPost_ret (v:= .tuple #[.agg #[.int .i64 y.room,.slice y.a y.ps.length y.c],.int .i64 0]) (by simp[results,Tryz.results38,go_sem,r0,r1]) rfl ?_
    rw[zu E]
    exact⟨y,zu HY,rfl,(zu EN).1,(zu EN).2⟩
end SAppend14
namespace SSync14
open Fil14 OpensF14 DiskH14 DkH14 SDk14 SOk14 SRd14 App14 SLess14 SCopy14 SRef14 SCom14 SPut14
def syncD(room:Int)(ps:List TF)(nm:Int):(Int×List TF)×Int:=if(atD room ps nm).2=0 then((room,putF ps (nm,bytesAt ps (atD room ps nm).1.toNat,ByteArray.empty)),0) else(refD (atD room ps nm).2 room ps,(atD room ps nm).2)
theorem sDiskSync(w:World)(x:Dx)(nm:Int)(hr:RdD w x)(hz:sumZ x.ps≤1048576):
  Calls Tryz.prog 40 #[.agg #[.int .i64 x.room,.slice x.a x.ps.length x.c],.int .i64 nm] w (ToldD (syncD x.room x.ps nm) w):=by
 have G0:=zh (begunD hr)
 have s2:((w.alloc (.cells #[.int .i64 x.room,.slice x.a x.ps.length x.c] 52)).alloc (.cells #[.int .i64 0,.slice none 0 0] 52)).heap.size=w.heap.size+2:=by simp
 have AT:=zh (sAt _ x nm (zu G0).1.r hz)
 have AI:=zh (at_in (room:=x.room) (ps:=x.ps) (nm:=nm))
 have RE:=zh (show syncD x.room x.ps nm=if(atD x.room x.ps nm).2=0 then((x.room,putF x.ps (nm,bytesAt x.ps (atD x.room x.ps nm).1.toNat,ByteArray.empty)),0) else(refD (atD x.room x.ps nm).2 x.room x.ps,(atD x.room x.ps nm).2) from rfl)
 generalize syncD x.room x.ps nm=rr at *
 generalize atD x.room x.ps nm=at' at *
 obtain⟨k0,c⟩:=at'
 clear hr
 go_enter Tryz.func40,Tryz.ntmps40
 go_wp2_with fail
 generalize (w.alloc (.cells #[.int .i64 x.room,.slice x.a x.ps.length x.c] 52)).alloc (.cells #[.int .i64 0,.slice none 0 0] 52)=W at *
 refine(zu AT).mono ?_
 rintro e u ⟨rfl,b1⟩
 have W1:=zh ((zu G0).1.step b1)
 have R1:=zh ((zu G0).2.below b1 (by omega))
 have us:=b1.size
 clear b1 AT G0
 have c0:=(zu W1).c0
 have c1:=(zu W1).c1
 have lt:=(zu W1).lt
 by_cases q:c=0
 case neg=>
  have E:=zh (show rr=(refD c x.room x.ps,c) by rw[zu RE,if_neg q])
  have qb:(c !=0)=true:=by simpa using q
  clear RE AI q
  go_wp2_with fail
  refine(sRefused u x c (zu W1).r).mono ?_
  rintro e u2 ⟨y,hy,rfl,oy,b2⟩
  have R2:=zh ((zu R1).below b2 (zu R1).lt.2)
  have EN:=zh (endedD ((zu W1).b.trans (b2.mono (zu W1).b.size)) (zu R2) oy (by omega))
  have HY:=zh hy
  have f0:=(zu R2).free 0
  have f1:=(zu R2).free 1
  have r0:=(zu R2).c0
  have r1:=(zu R2).c1
  clear b2 oy hy c0 c1 lt W1 R1
  go_wp2
  refine bodyPost_ret (v:= .tuple #[.agg #[.int .i64 y.room,.slice y.a y.ps.length y.c],.int .i64 c]) (by simp[results,Tryz.results40,go_sem,r0,r1]) rfl ?_
  rw[zu E]
  exact⟨y,zu HY,rfl,(zu EN).1,(zu EN).2⟩
 subst q
 obtain⟨ok,okn,k,rfl,kl,en⟩:=(zu AI) rfl
 have E:=zh (show rr=((x.room,putF x.ps (nm,bytesAt x.ps k,ByteArray.empty)),0) by rw[zu RE,if_pos rfl];rfl)
 have h22:=ok.2.1
 have kt:(k:Int)<x.ps.length:=by omega
 obtain⟨g,ea,lg,d0,d1,d2⟩:=cells_of (zu W1).r kl
 have ix:=ixF x.c ea kl
 have ES:=zh (show bytesAt x.ps k=(elF x.ps k).2.1++(elF x.ps k).2.2 from rfl)
 have NX:=sumZ_next kl
 have LE:=sumZ_le x.ps (k+1)
 have s1:(elF x.ps k).2.1.size+(elF x.ps k).2.2.size≤1048576:=by omega
 clear RE AI ok okn en ea NX LE
 generalize (elF x.ps k).1=z0 at *
 generalize (elF x.ps k).2.1=z1 at *
 generalize (elF x.ps k).2.2=z2 at *
 have W3:=zh ((zu W1).step (one_more u (.cells #[.int .i64 z0,.string z1,.string z2] 120)))
 have R3:=zh ((zu R1).below (one_more u (.cells #[.int .i64 z0,.string z1,.string z2] 120)) (zu R1).lt.2)
 go_wp2_with fail
 refine(sPut _ x nm (z1++z2) ByteArray.empty (zu W3).r h22).mono ?_
 rintro e u2 ⟨y,hy0,hy,rfl,oy,b2⟩
 have R2:=zh ((zu R3).below b2 (zu R3).lt.2)
 have EN:=zh (endedD ((zu W3).b.trans (b2.mono (zu W3).b.size)) (zu R2) oy (by simp;omega))
 have HY:=zh (show(y.room,y.ps)=(x.room,putF x.ps (nm,bytesAt x.ps k,ByteArray.empty)) by rw[hy0,hy,zu ES])
 have f0:=(zu R2).free 0
 have f1:=(zu R2).free 1
 have r0:=(zu R2).c0
 have r1:=(zu R2).c1
 clear b2 oy hy hy0 c0 c1 lt W1 R1 W3 R3 d0 d1 d2 ix s1
 go_wp2
 refine bodyPost_ret (v:= .tuple #[.agg #[.int .i64 y.room,.slice y.a y.ps.length y.c],.int .i64 0]) (by simp[results,Tryz.results40,go_sem,r0,r1]) rfl ?_
 rw[zu E]
 exact⟨y,zu HY,rfl,(zu EN).1,(zu EN).2⟩
end SSync14
namespace SMove14
open Fil14 OpensF14 DiskH14 DkH14 SDk14 SOk14 SRd14 App14 SLess14 SCopy14 SRef14 SCom14 SPut14
def moveD(room:Int)(ps:List TF)(nm to:Int):(Int×List TF)×Int:=if okN to=true∧nm≠to then(if(atD room ps nm).2=0 then((room,putF (lessN ps (atD room ps nm).1 ps.length) (to,(elF ps (atD room ps nm).1.toNat).2.1,(elF ps (atD room ps nm).1.toNat).2.2)),0) else(refD (atD room ps nm).2 room ps,(atD room ps nm).2)) else(refD 1 room ps,1)
theorem less_len(ps:List TF)(nm:Int):∀n,(lessN ps nm n).length≤n
 |0=>by simp[lessN]
 |n+1=>by
  have:=less_len ps nm n
  simp only[lessN]
  split<;>simp<;>omega
abbrev oM0:Oper:={dst:=some 38,op:=Go.Op.load 52 (Go.Operand.tmp 3),type:=52,pos:= "l14_disk.go:144",after:= #[],guard:=none}
abbrev oM1:Oper:={dst:=some 39,op:=Go.Op.move (Go.Operand.tmp 8),type:=3,pos:= "l14_disk.go:144",after:= #[],guard:=none}
abbrev oM2:Oper:={dst:=some 40,op:=Go.Op.call {callee:=Go.Callee.value (Go.Operand.func 37),args:= #[Go.Operand.tmp 38,Go.Operand.tmp 39],argTypes:= #[52,3]},type:=52,pos:= "l14_disk.go:144",after:= #[{on:=0,ground:=Go.Ground.data},{on:=1,ground:=Go.Ground.data}],guard:=none}
abbrev oM3:Oper:={dst:=some 41,op:=Go.Op.load 120 (Go.Operand.tmp 10),type:=120,pos:= "l14_disk.go:144",after:= #[],guard:=none}
abbrev oM4:Oper:={dst:=some 42,op:=Go.Op.call {callee:=Go.Callee.value (Go.Operand.func 77),args:= #[Go.Operand.tmp 40,Go.Operand.tmp 41],argTypes:= #[52,120]},type:=52,pos:= "l14_disk.go:144",after:= #[{on:=2,ground:=Go.Ground.data},{on:=3,ground:=Go.Ground.data},{on:=2,ground:=Go.Ground.chain}],guard:=none}
abbrev oM5:Oper:={dst:=none,op:=Go.Op.store 52 (Go.Operand.tmp 6) (Go.Operand.tmp 42),type:=0,pos:= "l14_disk.go:144",after:= #[{on:=4,ground:=Go.Ground.data},{on:=4,ground:=Go.Ground.chain},{on:=0,ground:=Go.Ground.phase},{on:=1,ground:=Go.Ground.phase},{on:=2,ground:=Go.Ground.phase},{on:=3,ground:=Go.Ground.phase},{on:=4,ground:=Go.Ground.phase}],guard:=none}
abbrev oM6:Oper:={dst:=some 7,op:=Go.Op.assign (Go.Operand.const (Go.Value.int Go.IntKind.i64 0)),type:=3,pos:= "l14_disk.go:144",after:= #[{on:=5,ground:=Go.Ground.chain},{on:=0,ground:=Go.Ground.phase},{on:=1,ground:=Go.Ground.phase},{on:=2,ground:=Go.Ground.phase},{on:=3,ground:=Go.Ground.phase},{on:=4,ground:=Go.Ground.phase},{on:=5,ground:=Go.Ground.phase}],guard:=none}
theorem sDiskMove(w:World)(x:Dx)(nm to:Int)(hr:RdD w x)(hz:sumZ x.ps≤1048576):
  Calls Tryz.prog 41 #[.agg #[.int .i64 x.room,.slice x.a x.ps.length x.c],.int .i64 nm,.int .i64 to] w (ToldD (moveD x.room x.ps nm to) w):=by
 have G0:=zh (begunD hr)
 have s2:((w.alloc (.cells #[.int .i64 x.room,.slice x.a x.ps.length x.c] 52)).alloc (.cells #[.int .i64 0,.slice none 0 0] 52)).heap.size=w.heap.size+2:=by simp
 have AT:=zh (sAt _ x nm (zu G0).1.r hz)
 have AI:=zh (at_in (room:=x.room) (ps:=x.ps) (nm:=nm))
 have NM:=zh (fun u=>sName u to)
 have RE:=zh (show moveD x.room x.ps nm to=if okN to=true∧nm≠to then(if(atD x.room x.ps nm).2=0 then((x.room,putF (lessN x.ps (atD x.room x.ps nm).1 x.ps.length) (to,(elF x.ps (atD x.room x.ps nm).1.toNat).2.1,(elF x.ps (atD x.room x.ps nm).1.toNat).2.2)),0) else(refD (atD x.room x.ps nm).2 x.room x.ps,(atD x.room x.ps nm).2)) else(refD 1 x.room x.ps,1) from rfl)
 generalize moveD x.room x.ps nm to=rr at *
 generalize atD x.room x.ps nm=at' at *
 obtain⟨k0,c⟩:=at'
 generalize okN to=bt at *
 clear hr
 go_enter Tryz.func41,Tryz.ntmps41
 go_wp2_with fail
 generalize (w.alloc (.cells #[.int .i64 x.room,.slice x.a x.ps.length x.c] 52)).alloc (.cells #[.int .i64 0,.slice none 0 0] 52)=W at *
 refine(zu AT).mono ?_
 rintro e u0 ⟨rfl,b1⟩
 have W1:=zh ((zu G0).1.step b1)
 have R1:=zh ((zu G0).2.below b1 (by omega))
 have us:=b1.size
 clear b1 AT G0
 have c0:=(zu W1).c0
 have c1:=(zu W1).c1
 have lt:=(zu W1).lt
 go_wp2_with fail
 refine((zu NM) u0).mono ?_
 rintro e u ⟨rfl,rfl⟩
 clear NM
 cases bt with
 |false=>
  have E:=zh (show rr=(refD 1 x.room x.ps,1) by rw[zu RE,if_neg (fun h=>by simp at h)])
  clear RE AI
  go_wp2_with fail
  refine(sRefused u x (1) (zu W1).r).mono ?_
  rintro e u2 ⟨y,hy,rfl,oy,b2⟩
  have R2:=zh ((zu R1).below b2 (zu R1).lt.2)
  have EN:=zh (endedD ((zu W1).b.trans (b2.mono (zu W1).b.size)) (zu R2) oy (by omega))
  have HY:=zh hy
  have f0:=(zu R2).free 0
  have f1:=(zu R2).free 1
  have r0:=(zu R2).c0
  have r1:=(zu R2).c1
  clear b2 oy hy c0 c1 lt W1 R1
  go_wp2
  refine bodyPost_ret (v:= .tuple #[.agg #[.int .i64 y.room,.slice y.a y.ps.length y.c],.int .i64 (1)]) (by simp[results,Tryz.results41,go_sem,r0,r1]) rfl ?_
  rw[zu E]
  exact⟨y,zu HY,rfl,(zu EN).1,(zu EN).2⟩
 |true=>
  by_cases qt:nm=to
  ·have E:=zh (show rr=(refD 1 x.room x.ps,1) by rw[zu RE,if_neg (fun h=>h.2 qt)])
   have qtb:(nm==to)=true:=by simpa using qt
   clear RE AI qt
   go_wp2_with fail
   refine(sRefused u x (1) (zu W1).r).mono ?_
   rintro e u2 ⟨y,hy,rfl,oy,b2⟩
   have R2:=zh ((zu R1).below b2 (zu R1).lt.2)
   have EN:=zh (endedD ((zu W1).b.trans (b2.mono (zu W1).b.size)) (zu R2) oy (by omega))
   have HY:=zh hy
   have f0:=(zu R2).free 0
   have f1:=(zu R2).free 1
   have r0:=(zu R2).c0
   have r1:=(zu R2).c1
   clear b2 oy hy c0 c1 lt W1 R1
   go_wp2
   refine bodyPost_ret (v:= .tuple #[.agg #[.int .i64 y.room,.slice y.a y.ps.length y.c],.int .i64 (1)]) (by simp[results,Tryz.results41,go_sem,r0,r1]) rfl ?_
   rw[zu E]
   exact⟨y,zu HY,rfl,(zu EN).1,(zu EN).2⟩
  have qtb:(nm==to)=false:=by simpa using qt
  have RE2:=zh (show rr=if c=0 then((x.room,putF (lessN x.ps k0 x.ps.length) (to,(elF x.ps k0.toNat).2.1,(elF x.ps k0.toNat).2.2)),0) else(refD c x.room x.ps,c) by rw[zu RE,if_pos ⟨rfl,qt⟩])
  clear RE qt
  by_cases q:c=0
  case neg=>
   have E:=zh (show rr=(refD c x.room x.ps,c) by rw[zu RE2,if_neg q])
   have qb:(c !=0)=true:=by simpa using q
   clear RE2 AI q
   go_wp2_with fail
   refine(sRefused u x (c) (zu W1).r).mono ?_
   rintro e u2 ⟨y,hy,rfl,oy,b2⟩
   have R2:=zh ((zu R1).below b2 (zu R1).lt.2)
   have EN:=zh (endedD ((zu W1).b.trans (b2.mono (zu W1).b.size)) (zu R2) oy (by omega))
   have HY:=zh hy
   have f0:=(zu R2).free 0
   have f1:=(zu R2).free 1
   have r0:=(zu R2).c0
   have r1:=(zu R2).c1
   clear b2 oy hy c0 c1 lt W1 R1
   go_wp2
   refine bodyPost_ret (v:= .tuple #[.agg #[.int .i64 y.room,.slice y.a y.ps.length y.c],.int .i64 (c)]) (by simp[results,Tryz.results41,go_sem,r0,r1]) rfl ?_
   rw[zu E]
   exact⟨y,zu HY,rfl,(zu EN).1,(zu EN).2⟩
  subst q
  obtain⟨ok,okn,k,rfl,kl,en⟩:=(zu AI) rfl
  have E:=zh (show rr=((x.room,putF (lessN x.ps k x.ps.length) (to,(elF x.ps k).2.1,(elF x.ps k).2.2)),0) by rw[zu RE2,if_pos rfl];rfl)
  have h22:=ok.2.1
  have LL:=zh (less_len x.ps k x.ps.length)
  have kt:(k:Int)<x.ps.length:=by omega
  obtain⟨g,ea,lg,d0,d1,d2⟩:=cells_of (zu W1).r kl
  have ix:=ixF x.c ea kl
  clear RE2 AI ok okn en ea
  generalize (elF x.ps k).1=z0 at *
  generalize (elF x.ps k).2.1=z1 at *
  generalize (elF x.ps k).2.2=z2 at *
  obtain⟨u3,hu3⟩:∃u3,Hid (u3=u.alloc (.cells #[.int .i64 to,.string z1,.string z2] 120)):=⟨_,rfl⟩
  have W3:=zh (show Wd w u3 x by rw[zu hu3];exact(zu W1).step (one_more _ _))
  have R3:=zh (show Bc u3 w.heap.size (w.heap.size+1) (.int .i64 0) (.slice none 0 0) by rw[zu hu3];exact(zu R1).below (one_more _ _) (zu R1).lt.2)
  have fb:u3.cell? ⟨u.heap.size,0,none⟩=some (.int .i64 to)∧u3.cell? ⟨u.heap.size,1,none⟩=some (.string z1)∧u3.cell? ⟨u.heap.size,2,none⟩=some (.string z2):=by rw[zu hu3];simp
  have s3:u3.heap.size=u.heap.size+1:=by rw[zu hu3];simp
  go_wp2_with fail
  rw[←zu hu3]
  clear c0 c1 lt W1 R1 d0 d1 d2 ix hu3
  obtain⟨b0,b1,b2⟩:=fb
  have c0:=(zu W3).c0
  have c1:=(zu W3).c1
  have K0:u3.cell? ⟨w.heap.size,0,none⟩=some (.int .i64 x.room)∧u3.cell? ⟨w.heap.size,1,none⟩=some (.slice x.a x.ps.length x.c)∧u3.cell? ⟨u.heap.size,0,none⟩=some (.int .i64 to)∧u3.cell? ⟨u.heap.size,1,none⟩=some (.string z1)∧u3.cell? ⟨u.heap.size,2,none⟩=some (.string z2):=⟨c0,c1,b0,b1,b2⟩
  refine wp_region_held_drew (S:=(fun w'=>w'.cell? ⟨w.heap.size,0,none⟩=some (.int .i64 x.room)∧w'.cell? ⟨w.heap.size,1,none⟩=some (.slice x.a x.ps.length x.c)∧w'.cell? ⟨u.heap.size,0,none⟩=some (.int .i64 to)∧w'.cell? ⟨u.heap.size,1,none⟩=some (.string z1)∧w'.cell? ⟨u.heap.size,2,none⟩=some (.string z2))) (by kernel_rfl) K0 (fun hHeld=>?_)
  refine tk 0 oM0 (.agg #[.int .i64 x.room,.slice x.a x.ps.length x.c]) rfl (by kernel_rfl) (fun _ _ _ h=>h) (by rfl) (fun w hSw=>?_) hHeld ?_
  ·(try dsimp only at hSw)
   unfold oM0
   go_simp
  try simp only[oM0,Act.put,zA,zB,zC]
  refine tk 1 oM1 (.int .i64 k) rfl (by kernel_rfl) (fun _ _ _ h=>h) (by rfl) (fun w hSw=>?_) hHeld ?_
  ·(try dsimp only at hSw)
   unfold oM1
   go_simp
  try simp only[oM1,Act.put,zA,zB,zC]
  refine tk 3 oM3 (.agg #[.int .i64 to,.string z1,.string z2]) rfl (by kernel_rfl) (fun _ _ _ h=>h) (by rfl) (fun w hSw=>?_) hHeld ?_
  ·(try dsimp only at hSw)
   unfold oM3
   go_simp
  try simp only[oM3,Act.put,zA,zB,zC]
  refine wpAnyH_ready (rs:=[2]) (by kernel_rfl) (by simp) ?_
  refine AllReadyH.cons (o:=oM2) rfl (fun K hK=>?_) AllReadyH.nil
  unfold oM2
  go_simp
  go_wp2_with fail
  refine(sLess u3.drew x k (zu W3.drew).r).mono ?_
  rintro e v1 ⟨y,yr,yp,rfl,oy,bb⟩
  have bb1:Below u3.heap.size u3 v1:=⟨bb.os,bb.tape,bb.output,bb.size,bb.block⟩
  have W4:=zh ((zu W3).step bb1)
  have R4:=zh ((zu R3).below bb1 (zu R3).lt.2)
  have O4:=zh oy
  have HY1:=zh (And.intro yr yp)
  have K1:v1.cell? ⟨w.heap.size,0,none⟩=some (.int .i64 x.room)∧v1.cell? ⟨w.heap.size,1,none⟩=some (.slice x.a x.ps.length x.c)∧v1.cell? ⟨u.heap.size,0,none⟩=some (.int .i64 to)∧v1.cell? ⟨u.heap.size,1,none⟩=some (.string z1)∧v1.cell? ⟨u.heap.size,2,none⟩=some (.string z2):=⟨(zu W4).c0,(zu W4).c1,(bb1.cell (p:=⟨u.heap.size,0,none⟩) (show u.heap.size<u3.heap.size by omega)).trans b0,(bb1.cell (p:=⟨u.heap.size,1,none⟩) (show u.heap.size<u3.heap.size by omega)).trans b1,(bb1.cell (p:=⟨u.heap.size,2,none⟩) (show u.heap.size<u3.heap.size by omega)).trans b2⟩
  have vs:=bb1.size
  clear bb bb1 oy yr yp
  go_wp2_with fail
  refine hK.out _ _ K1 (fun hHeld=>?_)
  clear hK K
  try simp only[oM2,Act.put,zA,zB,zC]
  refine wpAnyH_ready (rs:=[4]) (by kernel_rfl) (by simp) ?_
  refine AllReadyH.cons (o:=oM4) rfl (fun K hK=>?_) AllReadyH.nil
  unfold oM4
  go_simp
  go_wp2_with fail
  refine(sPut v1 y to z1 z2 (OwD.rd (zu O4) (by rw[(zu HY1).2];have:=zu LL;omega)) (by rw[(zu HY1).2];have:=zu LL;omega)).mono ?_
  rintro e v2 ⟨y2,yr2,yp2,rfl,oy2,bb2⟩
  have W5:=zh ((zu W4).step bb2)
  have R5:=zh ((zu R4).below bb2 (zu R4).lt.2)
  have vs2:=bb2.size
  have K2:v2.cell? ⟨w.heap.size,0,none⟩=some (.int .i64 x.room)∧v2.cell? ⟨w.heap.size,1,none⟩=some (.slice x.a x.ps.length x.c)∧v2.cell? ⟨u.heap.size,0,none⟩=some (.int .i64 to)∧v2.cell? ⟨u.heap.size,1,none⟩=some (.string z1)∧v2.cell? ⟨u.heap.size,2,none⟩=some (.string z2):=⟨(zu W5).c0,(zu W5).c1,(bb2.cell (p:=⟨u.heap.size,0,none⟩) (show u.heap.size<v1.heap.size by omega)).trans K1.2.2.1,(bb2.cell (p:=⟨u.heap.size,1,none⟩) (show u.heap.size<v1.heap.size by omega)).trans K1.2.2.2.1,(bb2.cell (p:=⟨u.heap.size,2,none⟩) (show u.heap.size<v1.heap.size by omega)).trans K1.2.2.2.2⟩
  have EN:=zh (endedD (zu W5).b (zu R5) oy2 (by have:=(zu W4).lt;omega))
  have HY2:=zh (show(y2.room,y2.ps)=(x.room,putF (lessN x.ps k x.ps.length) (to,z1,z2)) by rw[yr2,yp2,(zu HY1).1,(zu HY1).2])
  have f0:=(zu R5).free 0
  have f1:=(zu R5).free 1
  have r0:=(zu R5).c0
  have r1:=(zu R5).c1
  have wl:=(zu W5).lt
  have st:=grow_grow ((zu R5).set0 (.int .i64 y2.room)).2 (bc_set1 ((zu R5).set0 (.int .i64 y2.room)).1 (.slice y2.a y2.ps.length y2.c)).2
  have K3:((v2.setCell ⟨w.heap.size+1,0,none⟩ (.int .i64 y2.room)).setCell ⟨w.heap.size+1,1,none⟩ (.slice y2.a y2.ps.length y2.c)).cell? ⟨w.heap.size,0,none⟩=some (.int .i64 x.room)∧((v2.setCell ⟨w.heap.size+1,0,none⟩ (.int .i64 y2.room)).setCell ⟨w.heap.size+1,1,none⟩ (.slice y2.a y2.ps.length y2.c)).cell? ⟨w.heap.size,1,none⟩=some (.slice x.a x.ps.length x.c)∧((v2.setCell ⟨w.heap.size+1,0,none⟩ (.int .i64 y2.room)).setCell ⟨w.heap.size+1,1,none⟩ (.slice y2.a y2.ps.length y2.c)).cell? ⟨u.heap.size,0,none⟩=some (.int .i64 to)∧((v2.setCell ⟨w.heap.size+1,0,none⟩ (.int .i64 y2.room)).setCell ⟨w.heap.size+1,1,none⟩ (.slice y2.a y2.ps.length y2.c)).cell? ⟨u.heap.size,1,none⟩=some (.string z1)∧((v2.setCell ⟨w.heap.size+1,0,none⟩ (.int .i64 y2.room)).setCell ⟨w.heap.size+1,1,none⟩ (.slice y2.a y2.ps.length y2.c)).cell? ⟨u.heap.size,2,none⟩=some (.string z2):=⟨(kcell st 0 wl (by omega)).trans K2.1,(kcell st 1 wl (by omega)).trans K2.2.1,(kcell st 0 (g:=u.heap.size) (by omega) (by omega)).trans K2.2.2.1,(kcell st 1 (g:=u.heap.size) (by omega) (by omega)).trans K2.2.2.2.1,(kcell st 2 (g:=u.heap.size) (by omega) (by omega)).trans K2.2.2.2.2⟩
  clear bb2 oy2 yr2 yp2
  go_wp2_with fail
  refine hK.out _ _ K2 (fun hHeld=>?_)
  clear hK K
  try simp only[oM4,Act.put,zA,zB,zC]
  refine wpAnyH_ready (rs:=[5]) (by kernel_rfl) (by simp) ?_
  refine AllReadyH.cons (o:=oM5) rfl (fun K hK=>?_) AllReadyH.nil
  unfold oM5
  go_simp
  refine hK.out _ _ K3 (fun hHeld=>?_)
  clear hK K
  try simp only[oM5,Act.put,zA,zB,zC]
  refine tk 6 oM6 (.int .i64 0) rfl (by kernel_rfl) (fun _ _ _ h=>h) (by rfl) (fun w hSw=>?_) hHeld ?_
  ·(try dsimp only at hSw)
   unfold oM6
   go_simp
  try simp only[oM6,Act.put,zA,zB,zC]
  refine wpAnyH_done (by kernel_rfl) ?_ _
  clear K0 K1 K2 K3 st
  go_wp2
  refine bodyPost_ret (v:= .tuple #[.agg #[.int .i64 y2.room,.slice y2.a y2.ps.length y2.c],.int .i64 0]) (by simp[results,Tryz.results41,go_sem,r0,r1]) rfl ?_
  rw[zu E]
  exact⟨y2,zu HY2,rfl,(zu EN).1,(zu EN).2⟩
end SMove14
namespace Pure14
open Fil14 DiskH14 SDk14 SOk14 SRd14 SLess14 SRef14 SCom14 SPut14
def Asc(ps:List TF):Prop:=ps.Pairwise (fun p q=>p.1<q.1)
def Named(ps:List TF):Prop:=∀p∈ps,0≤p.1∧p.1≤21
theorem elF_mem{ps:List TF}{i:Nat}(h:i<ps.length):elF ps i∈ps:=by
 rw[elF_get h]
 exact List.getElem_mem h
theorem mem_elF{ps:List TF}{p:TF}(h:p∈ps):∃i,i<ps.length∧elF ps i=p:=by
 obtain⟨i,hi,e⟩:=List.getElem_of_mem h
 exact⟨i,hi,by rw[elF_get hi];exact e⟩
theorem ok_named{n:Int}:okN n=true↔0≤n∧n≤21:=by unfold okN;simp
theorem step_lt{ps:List TF}(h:∀i,i<ps.length→okAt ps i):∀j i,i<j→j<ps.length→(elF ps i).1<(elF ps j).1
 |0,i=>fun a _=>absurd a (by omega)
 |j+1,i=>fun a b=>by
  have s:=(h (j+1) b).2 (by omega)
  simp only[Nat.add_sub_cancel] at s
  by_cases e:i=j
  ·subst e;exact s
  ·have:=step_lt h j i (by omega) (by omega)
   omega
theorem asc_of{room:Int}{ps:List TF}(h:OkD room ps):Asc ps∧Named ps:=by
 refine⟨?_,fun p hp=>?_⟩
 ·unfold Asc
  rw[List.pairwise_iff_getElem]
  intro i j hi hj l
  have:=step_lt h.2.2.2 j i l hj
  rwa [elF_get hi,elF_get hj] at this
 ·obtain⟨i,hi,rfl⟩:=mem_elF hp
  exact ok_named.1 (h.2.2.2 i hi).1
theorem named_len:∀(ps:List TF) (lo:Int),0≤lo→lo≤22→Asc ps→(∀p∈ps,lo≤p.1∧p.1≤21)→(ps.length:Int)≤22-lo
 |[],lo,_,_,_,_=>by simp;omega
 |p::ps,lo,h0,h1,ha,hn=>by
  have hp:=hn p (by simp)
  have ha':=List.pairwise_cons.1 ha
  have:=named_len ps (p.1+1) (by omega) (by omega) ha'.2 (fun q hq=>⟨by have:=ha'.1 q hq;omega,(hn q (by simp[hq])).2⟩)
  simp only[List.length_cons]
  omega
theorem okd_of{room:Int}{ps:List TF}(h1:0≤room∧room≤60000)(h3:(sumZ ps:Int)≤room)(h4:Asc ps)(h5:Named ps):OkD room ps:=by
 refine⟨h1,by have:=named_len ps 0 (by omega) (by omega) h4 h5;omega,h3,fun i hi=>⟨ok_named.2 (h5 _ (elF_mem hi)),fun hz=>?_⟩⟩
 have:=List.pairwise_iff_getElem.1 h4 (i-1) i (by omega) hi (by omega)
 rw[elF_get hi,elF_get (show i-1<ps.length by omega)]
 exact this
def lows(ps:List TF)(n:Int):List TF:=ps.filter (fun p=>decide (p.1<n))
def highs(ps:List TF)(n:Int):List TF:=ps.filter (fun p=>decide (n<p.1))
theorem lows_all{ps:List TF}{n:Int}(h:∀p∈ps,p.1<n):lows ps n=ps∧highs ps n=[]:=by
 constructor
 ·unfold lows;rw[List.filter_eq_self];intro p hp;simpa using h p hp
 ·unfold highs;rw[List.filter_eq_nil_iff];intro p hp;have:=h p hp;simp;omega
open Classical in
theorem putN_is{ps:List TF}(f:TF)(h:Asc ps):∀k,k≤ps.length→putN ps f k=if ∃p∈ps.take k,f.1≤p.1 then(lows (ps.take k) f.1++f::highs (ps.take k) f.1,true) else(ps.take k,false)
 |0,_=>by simp[putN]
 |k+1,hk=>by
  have ih:=putN_is f h k (by omega)
  have tk:ps.take (k+1)=ps.take k++[elF ps k]:=by rw[List.take_succ_eq_append_getElem (show k<ps.length by omega),elF_get (show k<ps.length by omega)]
  have gt:∀q∈ps.take k,q.1<(elF ps k).1:=by
   intro q hq
   obtain⟨i,hi,e⟩:=List.getElem_of_mem hq
   have hi':i<k:=by simp at hi;omega
   rw[List.getElem_take] at e
   have:=List.pairwise_iff_getElem.1 h i k (by omega) (by omega) hi'
   rw[elF_get (show k<ps.length by omega),←e]
   exact this
  have hs:=fun L pb (e:putN ps f k=(L,pb))=>putN_succ e
  generalize elF ps k=p at *
  by_cases c:∃q∈ps.take k,f.1≤q.1
  ·rw[if_pos c] at ih
   have pg:f.1<p.1:=by obtain⟨q,hq,hf⟩:=c;have:=gt q hq;omega
   have c':∃q∈ps.take (k+1),f.1≤q.1:=by obtain⟨q,hq,hf⟩:=c;exact⟨q,by rw[tk];simp[hq],hf⟩
   rw[hs _ _ ih,if_pos c',tk]
   have n1:¬p.1=f.1:=by omega
   have n2:¬p.1<f.1:=by omega
   simp[lows,highs,List.filter_append,n1,n2,pg]
  ·rw[if_neg c] at ih
   have lo:∀q∈ps.take k,q.1<f.1:=fun q hq=>by
    rcases Int.lt_or_le q.1 f.1 with l|l
    ·exact l
    ·exact absurd ⟨q,hq,l⟩ c
   obtain⟨l1,l2⟩:=lows_all lo
   rw[hs _ _ ih]
   by_cases d:f.1≤p.1
   ·have c':∃q∈ps.take (k+1),f.1≤q.1:=⟨p,by rw[tk];simp,d⟩
    rw[if_pos c',tk]
    unfold lows at l1
    unfold highs at l2
    by_cases e:p.1=f.1
    ·have n2:¬p.1<f.1:=by omega
     have n3:¬f.1<p.1:=by omega
     simp only[lows,highs,List.filter_append,l1,l2]
     simp[e]
    ·have n2:¬p.1<f.1:=by omega
     have n3:f.1<p.1:=by omega
     simp only[lows,highs,List.filter_append,l1,l2]
     simp[e,d,n2,n3]
   ·have c':¬∃q∈ps.take (k+1),f.1≤q.1:=by
     rintro⟨q,hq,hf⟩
     rw[tk] at hq
     simp at hq
     rcases hq with hq|rfl
     ·exact c ⟨q,hq,hf⟩
     ·exact d hf
    have n1:¬p.1=f.1:=by omega
    rw[if_neg c',tk]
    simp[n1,d]
theorem put_is{ps:List TF}(f:TF)(h:Asc ps):putF ps f=lows ps f.1++f::highs ps f.1:=by
 have q:=putN_is f h ps.length (Nat.le_refl _)
 rw[List.take_length] at q
 unfold putF
 rw[q]
 by_cases c:∃p∈ps,f.1≤p.1
 ·rw[if_pos c];simp
 ·rw[if_neg c]
  obtain⟨l1,l2⟩:=lows_all (ps:=ps) (n:=f.1) (fun q hq=>by
   rcases Int.lt_or_le q.1 f.1 with l|l
   ·exact l
   ·exact absurd ⟨q,hq,l⟩ c)
  rw[l1,l2]
  simp
theorem low_mem{ps:List TF}{n:Int}{p:TF}:p∈lows ps n↔p∈ps∧p.1<n:=by simp[lows]
theorem high_mem{ps:List TF}{n:Int}{p:TF}:p∈highs ps n↔p∈ps∧n<p.1:=by simp[highs]
theorem put_mem{ps:List TF}{f p:TF}(h:Asc ps):p∈putF ps f↔p=f∨(p∈ps∧p.1≠f.1):=by
 rw[put_is f h]
 simp only[List.mem_append,List.mem_cons,low_mem,high_mem]
 constructor
 ·rintro(⟨a,b⟩|rfl|⟨a,b⟩)
  ·exact .inr ⟨a,by omega⟩
  ·exact .inl rfl
  ·exact .inr ⟨a,by omega⟩
 ·rintro(rfl|⟨a,b⟩)
  ·exact .inr (.inl rfl)
  ·rcases Int.lt_trichotomy p.1 f.1 with l|l|l
   ·exact .inl ⟨a,l⟩
   ·exact absurd l b
   ·exact .inr (.inr ⟨a,l⟩)
theorem put_asc{ps:List TF}(f:TF)(h:Asc ps):Asc (putF ps f):=by
 rw[put_is f h]
 unfold Asc
 rw[List.pairwise_append]
 refine⟨h.filter _,?_,?_⟩
 ·rw[List.pairwise_cons]
  exact⟨fun q hq=>(high_mem.1 hq).2,h.filter _⟩
 ·intro p hp q hq
  have:=(low_mem.1 hp).2
  rcases List.mem_cons.1 hq with rfl|hq
  ·exact this
  ·have:=(high_mem.1 hq).2
   omega
theorem put_named{ps:List TF}{f:TF}(h:Asc ps)(hn:Named ps)(hf:0≤f.1∧f.1≤21):Named (putF ps f):=fun p hp=>by
 rcases(put_mem h).1 hp with rfl|⟨a,_⟩
 ·exact hf
 ·exact hn p a
theorem asc_lt{ps:List TF}(h:Asc ps){i j:Nat}(l:i<j)(hj:j<ps.length):(elF ps i).1<(elF ps j).1:=by
 have:=List.pairwise_iff_getElem.1 h i j (by omega) hj l
 rwa [elF_get (show i<ps.length by omega),elF_get hj]
theorem find_neg{ps:List TF}{nm:Int}(h:findF ps nm<0):∀p∈ps,p.1≠nm:=fun p hp e=>by
 have:0≤findF ps nm:=by
  unfold findF
  have:(ps.findIdx? (fun p=>p.1==nm)).isSome=true:=by
   rw[List.findIdx?_isSome]
   exact List.any_eq_true.2 ⟨p,hp,by simpa using e⟩
  obtain⟨i,hi⟩:=Option.isSome_iff_exists.1 this
  rw[hi]
  simp
 omega
theorem parts{ps:List TF}(h:Asc ps){k:Nat}(hk:k<ps.length):lows ps (elF ps k).1=ps.take k∧highs ps (elF ps k).1=ps.drop (k+1):=by
 have e:ps=ps.take k++elF ps k::ps.drop (k+1):=by
  rw[elF_get hk,List.getElem_cons_drop,List.take_append_drop]
 have a:∀q∈ps.take k,q.1<(elF ps k).1:=by
  intro q hq
  obtain⟨i,hi,e⟩:=List.getElem_of_mem hq
  have hi':i<k:=by simp at hi;omega
  rw[List.getElem_take] at e
  have:=asc_lt h hi' hk
  rw[elF_get (show i<ps.length by omega)] at this
  rw[←e]
  exact this
 have b:∀q∈ps.drop (k+1),(elF ps k).1<q.1:=by
  intro q hq
  obtain⟨i,hi,e⟩:=List.getElem_of_mem hq
  rw[List.getElem_drop] at e
  simp at hi
  have:=asc_lt h (show k<k+1+i by omega) (by omega)
  rw[elF_get (show k+1+i<ps.length by omega)] at this
  rw[←e]
  exact this
 generalize elF ps k=p at *
 constructor
 ·conv=>lhs;rw[e]
  unfold lows
  rw[List.filter_append,List.filter_cons]
  rw[List.filter_eq_self.2 (fun q hq=>by simpa using a q hq)]
  rw[List.filter_eq_nil_iff.2 (fun q hq=>by have:=b q hq;simp;omega)]
  simp
 ·conv=>lhs;rw[e]
  unfold highs
  have h1:(ps.take k).filter (fun q=>decide (p.1<q.1))=[]:=List.filter_eq_nil_iff.2 (fun q hq=>by have:=a q hq;simp;omega)
  have h2:(ps.drop (k+1)).filter (fun q=>decide (p.1<q.1))=ps.drop (k+1):=List.filter_eq_self.2 (fun q hq=>by simpa using b q hq)
  rw[List.filter_append,List.filter_cons,h1,h2]
  simp
theorem lessN_is(ps:List TF)(k:Nat):∀n,n≤ps.length→lessN ps k n=(ps.take n).eraseIdx k
 |0,_=>by simp[lessN]
 |n+1,h=>by
  have ih:=lessN_is ps k n (by omega)
  have tk:ps.take (n+1)=ps.take n++[elF ps n]:=by rw[List.take_succ_eq_append_getElem (show n<ps.length by omega),elF_get (show n<ps.length by omega)]
  have ln:(ps.take n).length=n:=by simp;omega
  simp only[lessN]
  rw[tk]
  by_cases e:(n:Int)=k
  ·have e':n=k:=by omega
   rw[if_pos e,ih,List.eraseIdx_of_length_le (by omega),List.eraseIdx_append_of_length_le (by omega)]
   rw[ln,e',Nat.sub_self]
   simp
  ·rw[if_neg e,ih]
   by_cases l:k<n
   ·rw[List.eraseIdx_append_of_lt_length (by omega)]
   ·rw[List.eraseIdx_of_length_le (by omega),List.eraseIdx_of_length_le (by simp;omega)]
theorem less_is{ps:List TF}(h:Asc ps){k:Nat}(hk:k<ps.length):lessN ps k ps.length=lows ps (elF ps k).1++highs ps (elF ps k).1:=by
 rw[lessN_is ps k ps.length (Nat.le_refl _),List.take_length,(parts h hk).1,(parts h hk).2,List.eraseIdx_eq_take_drop_succ]
theorem less_asc{ps:List TF}(h:Asc ps){k:Nat}(hk:k<ps.length):Asc (lessN ps k ps.length):=by
 rw[lessN_is ps k ps.length (Nat.le_refl _),List.take_length]
 exact h.sublist (List.eraseIdx_sublist _ _)
theorem less_mem{ps:List TF}(h:Asc ps){k:Nat}(hk:k<ps.length){p:TF}:p∈lessN ps k ps.length↔p∈ps∧p.1≠(elF ps k).1:=by
 rw[less_is h hk]
 simp only[List.mem_append,low_mem,high_mem]
 constructor
 ·rintro(⟨a,b⟩|⟨a,b⟩)
  ·exact⟨a,by omega⟩
  ·exact⟨a,by omega⟩
 ·rintro⟨a,b⟩
  rcases Int.lt_trichotomy p.1 (elF ps k).1 with l|l|l
  ·exact .inl ⟨a,l⟩
  ·exact absurd l b
  ·exact .inr ⟨a,l⟩
theorem sum_cons(p:TF)(ps:List TF):sumZ (p::ps)=(p.2.1.size+p.2.2.size)+sumZ ps:=by simp[sumZ]
theorem sum_mid(l r:List TF)(p:TF):sumZ (l++p::r)=sumZ l+(p.2.1.size+p.2.2.size)+sumZ r:=by rw[sumZ_append,sum_cons];omega
theorem sum_rest{ps:List TF}(h:Asc ps){k:Nat}(hk:k<ps.length):sumZ ps=sumZ (lows ps (elF ps k).1)+((elF ps k).2.1.size+(elF ps k).2.2.size)+sumZ (highs ps (elF ps k).1):=by
 rw[(parts h hk).1,(parts h hk).2,←sum_mid]
 congr 1
 rw[elF_get hk,List.getElem_cons_drop,List.take_append_drop]
theorem parts_no:∀{ps:List TF} {n:Int},Asc ps→(∀p∈ps,p.1≠n)→lows ps n++highs ps n=ps
 |[],n,_,_=>by simp[lows,highs]
 |p::ps,n,h,hn=>by
  have ha:=List.pairwise_cons.1 h
  have hp:=hn p (by simp)
  have ih:=parts_no ha.2 (fun q hq=>hn q (by simp[hq]))
  rcases Int.lt_trichotomy p.1 n with l|l|l
  ·have n2:¬n<p.1:=by omega
   simp only[lows,highs,List.filter_cons] at ih⊢
   simp[l,n2,ih]
  ·exact absurd l hp
  ·have al:∀q∈ps,n<q.1:=fun q hq=>by have:=ha.1 q hq;omega
   have n2:¬p.1<n:=by omega
   simp only[lows,highs,List.filter_cons]
   rw[List.filter_eq_nil_iff.2 (fun q hq=>by have:=al q hq;simp;omega),List.filter_eq_self.2 (fun q hq=>by simpa using al q hq)]
   simp[l,n2]
theorem sum_new{ps:List TF}(h:Asc ps){n:Int}(hn:∀p∈ps,p.1≠n):sumZ ps=sumZ (lows ps n)+sumZ (highs ps n):=by
 conv=>lhs;rw[←parts_no h hn]
 rw[sumZ_append]
theorem sum_put{ps:List TF}(f:TF)(h:Asc ps):sumZ (putF ps f)=sumZ (lows ps f.1)+(f.2.1.size+f.2.2.size)+sumZ (highs ps f.1):=by rw[put_is f h,sum_mid]
end Pure14
namespace SDrop14
open Fil14 OpensF14 DiskH14 DkH14 SDk14 SOk14 SRd14 App14 SLess14 SCopy14 SRef14 SCom14
def dropD(room:Int)(ps:List TF)(nm:Int):(Int×List TF)×Int:=if(atD room ps nm).2=0 then((room,lessN ps (atD room ps nm).1 ps.length),0) else(refD (atD room ps nm).2 room ps,(atD room ps nm).2)
end SDrop14
namespace Ok14
open Fil14 DiskH14 SDk14 SOk14 SRd14 SLess14 SRef14 SCom14 SPut14 Pure14 SAppend14 SSync14 SMove14 SDrop14
theorem ok_put{room:Int}{ps:List TF}{f:TF}{k:Nat}(h:OkD room ps)(hk:k<ps.length)(hf:f.1=(elF ps k).1)(hs:(sumZ ps:Int) -((elF ps k).2.1.size+(elF ps k).2.2.size)+(f.2.1.size+f.2.2.size)≤room):OkD room (putF ps f):=by
 obtain⟨ha,hn⟩:=asc_of h
 have s1:=sum_rest ha hk
 have s2:=sum_put f ha
 rw[hf] at s2
 refine okd_of h.1 (by omega) (put_asc f ha) (put_named ha hn ?_)
 rw[hf]
 exact hn _ (elF_mem hk)
theorem ok_new{room:Int}{ps:List TF}{f:TF}(h:OkD room ps)(hn':0≤f.1∧f.1≤21)(hf:∀p∈ps,p.1≠f.1)(hs:(sumZ ps:Int)+(f.2.1.size+f.2.2.size)≤room):OkD room (putF ps f):=by
 obtain⟨ha,hn⟩:=asc_of h
 have s1:=sum_new ha hf
 have s2:=sum_put f ha
 exact okd_of h.1 (by omega) (put_asc f ha) (put_named ha hn hn')
theorem ok_append{room:Int}{ps:List TF}{nm:Int}{s:ByteArray}(h:OkD room ps)(hn:okN nm=true)(hs:(s.size:Int)≤room-sumZ ps):OkD room (putF ps (appF ps nm s)):=by
 by_cases q:0≤findF ps nm
 ·obtain⟨k,e,l,m⟩:=findF_in q
  have ef:appF ps nm s=((elF ps k).1,(elF ps k).2.1,(elF ps k).2.2++s):=by unfold appF;rw[if_pos q,e];rfl
  refine ok_put h l (by rw[ef]) ?_
  rw[ef]
  simp only[ByteArray.size_append]
  omega
 ·have ef:appF ps nm s=(nm,⟨#[]⟩,s):=by unfold appF;rw[if_neg q]
  refine ok_new h (by rw[ef];exact ok_named.1 hn) (fun p hp=>?_) ?_
  ·rw[ef]
   exact find_neg (nm:=nm) (by omega) p hp
  ·rw[ef]
   have:(⟨#[]⟩:ByteArray).size=0:=rfl
   simp only[this]
   omega
theorem ok_sync{room:Int}{ps:List TF}{nm:Int}(q:(atD room ps nm).2=0):OkD room (putF ps (nm,bytesAt ps (atD room ps nm).1.toNat,ByteArray.empty)):=by
 obtain⟨ok,_,k,e,l,m⟩:=at_in q
 rw[e]
 refine ok_put ok l (by simpa using m.symm) ?_
 have:ByteArray.empty.size=0:=rfl
 have b:(bytesAt ps k).size=(elF ps k).2.1.size+(elF ps k).2.2.size:=by unfold bytesAt;rw[ByteArray.size_append]
 simp only[Int.toNat_natCast,this,b]
 have:=ok.2.2.1
 omega
theorem ok_less{room:Int}{ps:List TF}{k:Nat}(ok:OkD room ps)(l:k<ps.length):OkD room (lessN ps k ps.length)∧(sumZ (lessN ps k ps.length):Int)=sumZ ps-((elF ps k).2.1.size+(elF ps k).2.2.size):=by
 obtain⟨ha,hn⟩:=asc_of ok
 have s1:=sum_rest ha l
 have s2:sumZ (lessN ps k ps.length)=sumZ (lows ps (elF ps k).1)+sumZ (highs ps (elF ps k).1):=by rw[less_is ha l,sumZ_append]
 have:=ok.2.2.1
 exact⟨okd_of ok.1 (by omega) (less_asc ha l) (fun p hp=>hn p ((less_mem ha l).1 hp).1),by omega⟩
theorem ok_move{room:Int}{ps:List TF}{nm to:Int}(q:(atD room ps nm).2=0)(ht:okN to=true):OkD room (putF (lessN ps (atD room ps nm).1 ps.length) (to,(elF ps (atD room ps nm).1.toNat).2.1,(elF ps (atD room ps nm).1.toNat).2.2)):=by
 obtain⟨ok,_,k,e,l,m⟩:=at_in q
 rw[e]
 simp only[Int.toNat_natCast]
 obtain⟨o1,s1⟩:=ok_less ok l
 have sr:=ok.2.2.1
 by_cases c:0≤findF (lessN ps k ps.length) to
 ·obtain⟨j,_,lj,mj⟩:=findF_in c
  refine ok_put o1 lj (by simpa using mj.symm) ?_
  simp only
  omega
 ·exact ok_new o1 (ok_named.1 ht) (find_neg (nm:=to) (by omega)) (by simp only;omega)
end Ok14
namespace TabF14
open Fil14 OpensF14 DiskH14 DkH14 SDk14 SOk14
open Go.Maps (Keyed)
theorem law:Keyed Tryz.prog 3:=Maps.int_keyed Tryz.underlying3
def Wf(n:Int):Prop:=(Lit.int .i64 n).wf=true
theorem wf_ok{n:Int}(h:okN n=true):Wf n:=by
 unfold okN at h
 exact WalkArith.wf_i64 (by simp at h;omega)
theorem wf_low{n:Int}(h:0≤n∧n≤21):Wf n:=wf_ok (by unfold okN;simpa using h)
abbrev z0:TF:=(0,ByteArray.empty,ByteArray.empty)
abbrev fV(p:TF):Value:= .agg #[.int .i64 p.1,.string p.2.1,.string p.2.2]
theorem fV_inj{p q:TF}(h:fV p=fV q):p=q:=by
 obtain⟨a,b,c⟩:=p
 obtain⟨d,e,f⟩:=q
 simp[fV] at h
 simp[h]
theorem zero(w:World):(zeroValue 120).run Tryz.prog w= .ok (fV z0) w:=by kernel_rfl
open Classical in
noncomputable def rF (v:Value):Option (DataW TF×List MemPlace):=if h:∃p,v=fV p then some (.held h.choose,[]) else none
theorem rF_mk(p:TF):rF (fV p)=some (.held p,[]):=by
 unfold rF
 have h:∃q,fV p=fV q:=⟨p,rfl⟩
 rw[dif_pos h,←fV_inj h.choose_spec]
theorem rF_inv{v:Value}{d:DataW TF}{ps:List MemPlace}(h:rF v=some (d,ps)):∃p,v=fV p∧d= .held p:=by
 unfold rF at h
 split at h
 ·rename_i q
  have e:DataW.held q.choose=d:=by simpa using congrArg (fun o=>o.map (·.1)) h
  exact⟨q.choose,q.choose_spec,e.symm⟩
 ·cases h
theorem key_of{n:Int}(h:Wf n):keyOf Tryz.prog 3 (.int .i64 n)=some (.int .i64 n):=Maps.keyOf_int_mk Tryz.underlying3 h
def upd(f:Int→Option TF)(k:Int)(p:Option TF):Int→Option TF:=fun j=>if j=k then p else f j
def Tf(w:World)(B n:Nat)(f:Int→Option TF):Prop:=∃D:DataW TF,w.ownsMap Tryz.prog 3 rF B n D∧∀k,Wf k→D.atKey (.int .i64 k) (.held z0)= .held ((f k).getD z0)∧Maps.has D (.int .i64 k)=(f k).isSome
theorem tf_made(w:World):Tf (w.alloc (.map #[] 0)) w.heap.size 0 (fun _=>none):=
 ⟨.map [],World.ownsMap_made _ _ _ _,fun k h=>⟨rfl,rfl⟩⟩
theorem Tf.lt{w:World}{B n:Nat}{f:Int→Option TF}(h:Tf w B n f):B<w.heap.size:=by
 obtain⟨D,h1,_⟩:=h
 exact h1.lt
theorem Tf.kept{w w':World}{B n:Nat}{f:Int→Option TF}{row:Option Nat}(h:Tf w B n f)(hg:w.grownBy w' row)(hne:some B≠row):Tf w' B n f:=by
 obtain⟨D,h1,h2⟩:=h
 exact⟨D,h1.kept hg hne,h2⟩
theorem below_grown{w w':World}(h:Below w.heap.size w w'):w.grownBy w' none:=⟨h.os,h.tape,h.output,h.size,fun k hk _=>h.block k hk⟩
theorem Tf.below{w w':World}{B n:Nat}{f:Int→Option TF}(h:Tf w B n f)(k:Below w.heap.size w w'):Tf w' B n f:=h.kept (below_grown k) (by simp)
theorem Tf.drew{w:World}{B n:Nat}{f:Int→Option TF}(h:Tf w B n f):Tf w.drew B n f:=h.below (Below.refl _ _).drew
theorem isMap_of{w:World}{B n:Nat}{D:DataW TF}(h:w.ownsMap Tryz.prog 3 rF B n D):Maps.IsMap D:=by
 obtain⟨es,clock,_,_,_,rfl⟩:=h
 exact⟨_,rfl⟩
theorem key_ne{j k:Int}(h:j≠k):Lit.int .i64 j≠Lit.int .i64 k:=fun e=>h (by simpa using e)
theorem wp_have(w:World){ops:Array Oper}{rest:List Oper}{o:Oper}{s:Act}{Q:Exit→Act→World→Prop}
  (hg:o.guard=none)(m x:Operand)(hop:o.op=Op.lookup 178 m x true)(B n:Nat)(f:Int→Option TF)(hm:s.eval m= .map (some B))(hown:Tf w B n f)(k:Int)(hx:s.eval x= .int .i64 k)(hw:Wf k)
  (p:TF)(b:Bool)(hp:(f k).getD z0=p)(hb:(f k).isSome=b)
  (hK:wpList Tryz.prog ops Q rest (s.put o.dst (.tuple #[.agg #[.int .i64 p.1,.string p.2.1,.string p.2.2],.bool b])) w):wpList Tryz.prog ops Q (o::rest) s w:=by
 obtain⟨D,h1,h2⟩:=hown
 subst hp hb
 refine wpList_lookup_own_ok w hg m x 178 hop 3 120 law Tryz.underlying178 rF (zero w) (.held z0) [] (rF_mk z0) B n D hm h1 _ (.int .i64 k) hx (key_of hw) ?_
 intro v ps hv
 obtain⟨p,rfl,e⟩:=rF_inv hv
 rw[(h2 k hw).1] at e
 have e':(f k).getD z0=p:=by simpa using e
 rw[(h2 k hw).2,←e']
 exact hK
theorem wp_look(w:World){ops:Array Oper}{rest:List Oper}{o:Oper}{s:Act}{Q:Exit→Act→World→Prop}
  (hg:o.guard=none)(m x:Operand)(hop:o.op=Op.lookup 178 m x false)(B n:Nat)(f:Int→Option TF)(hm:s.eval m= .map (some B))(hown:Tf w B n f)(k:Int)(hx:s.eval x= .int .i64 k)(hw:Wf k)
  (p:TF)(hp:(f k).getD z0=p)
  (hK:wpList Tryz.prog ops Q rest (s.put o.dst (.agg #[.int .i64 p.1,.string p.2.1,.string p.2.2])) w):wpList Tryz.prog ops Q (o::rest) s w:=by
 obtain⟨D,h1,h2⟩:=hown
 subst hp
 refine wpList_plain hg fun K' hK'=>?_
 obtain⟨v,ps,hrun,hv⟩:=h1.lookup law Tryz.underlying178 (zero w) (rF_mk z0) (key_of hw)
 obtain⟨p,rfl,e⟩:=rF_inv hv
 rw[(h2 k hw).1] at e
 have e':(f k).getD z0=p:=by simpa using e
 rw[←e'] at hrun
 unfold Oper.wp
 simp[execOp,hop,hm,hx,hrun,Result.andThen]
 exact hK' _ _ hK
theorem wp_put(w:World){ops:Array Oper}{rest:List Oper}{o:Oper}{s:Act}{Q:Exit→Act→World→Prop}
  (hg:o.guard=none)(m x y:Operand)(hop:o.op=Op.mapUpdate 178 m x y)(B n:Nat)(f:Int→Option TF)(hm:s.eval m= .map (some B))(hown:Tf w B n f)(hn:n≤1048576)(k:Int)(p:TF)(hx:s.eval x= .int .i64 k)(hy:s.eval y= .agg #[.int .i64 p.1,.string p.2.1,.string p.2.2])(hw:Wf k)
  (hK:∀w',Tf w' B (n+1) (upd f k (some p))→w.grownBy w' (some B)→wpList Tryz.prog ops Q rest (s.put o.dst undef) w'):wpList Tryz.prog ops Q (o::rest) s w:=by
 obtain⟨D,h1,h2⟩:=hown
 refine wpList_mapUpdate_own w hg m x y 178 hop 3 120 law Tryz.underlying178 rF B n D hm h1 (by unfold maxLen;omega) _ _ (.int .i64 k) hx hy (key_of hw) (.held p) [] (rF_mk p) ?_
 intro w' h3 h4
 refine hK w' ⟨_,h3,fun j hj=>?_⟩ h4
 unfold upd
 by_cases e:j=k
 ·subst e
  rw[if_pos rfl,Maps.atKey_put_same (isMap_of h1) (law.key (key_of hw)),Maps.has_put_same (isMap_of h1) (law.key (key_of hw))]
  exact⟨rfl,rfl⟩
 ·rw[if_neg e,Maps.atKey_put_other (key_ne e),Maps.has_put_other (key_ne e)]
  exact h2 j hj
theorem wp_del(w:World){ops:Array Oper}{rest:List Oper}{o:Oper}{s:Act}{Q:Exit→Act→World→Prop}
  (hg:o.guard=none)(m x:Operand)(hop:o.op=Op.call {callee:=Callee.builtin Builtin.delete,args:= #[m,x],argTypes:= #[178,3]})(B n:Nat)(f:Int→Option TF)(hm:s.eval m= .map (some B))(hown:Tf w B n f)(k:Int)(hx:s.eval x= .int .i64 k)(hw:Wf k)
  (hK:∀w',Tf w' B n (upd f k none)→w.grownBy w' (some B)→wpList Tryz.prog ops Q rest (s.put o.dst (.tuple #[])) w'):wpList Tryz.prog ops Q (o::rest) s w:=by
 obtain⟨D,h1,h2⟩:=hown
 refine wpList_delete_own w hg m x 178 3 hop 120 law Tryz.underlying178 rF B n D hm h1 _ (.int .i64 k) hx (key_of hw) ?_
 intro w' h3 h4
 refine hK w' ⟨_,h3,fun j hj=>?_⟩ h4.grown
 unfold upd
 by_cases e:j=k
 ·subst e
  rw[if_pos rfl,Maps.atKey_del_same,Maps.has_del_same]
  exact⟨rfl,rfl⟩
 ·rw[if_neg e,Maps.atKey_del_other (key_ne e),Maps.has_del_other (key_ne e)]
  exact h2 j hj
def tabN(ps:List TF):Nat→Int→Option TF
 |0=>fun _=>none
 |k+1=>upd (tabN ps k) (elF ps k).1 (some (elF ps k))
def tabOf(ps:List TF):Int→Option TF:=tabN ps ps.length
def rowN(f:Int→Option TF):Nat→List TF
 |0=>[]
 |k+1=>rowN f k++(f k).toList
def rowF(f:Int→Option TF):List TF:=rowN f 22
end TabF14
namespace ITb14
open Fil14 OpensF14 DiskH14 DkH14 SDk14 SOk14 SLess14 TabF14
theorem wd_grown{w wr wz:World}{x:Dx}{B:Nat}(h:Wd w wr x)(k:wr.grownBy wz (some B))(hB:w.heap.size<B)(hx:∀g,x.a=some ⟨g,0,none⟩→g≠B):Wd w wz x:=by
 refine⟨(App14.kcell k 0 h.lt (by omega)).trans h.c0,(App14.kcell k 1 h.lt (by omega)).trans h.c1,Nat.lt_of_lt_of_le h.lt k.size,grow_low h.b k ⟨by omega,Nat.le_of_lt h.lt⟩,⟨h.r.e,fun g e=>?_,h.r.n⟩⟩
 obtain⟨l,a⟩:=h.r.r g e
 have c:=fun o=>App14.kcell k o l (hx g e)
 refine⟨Nat.lt_of_lt_of_le l k.size,fun i hi=>?_⟩
 obtain⟨a0,a1,a2⟩:=a i hi
 exact⟨(c _).trans a0,(c _).trans a1,(c _).trans a2⟩
theorem iTable(w:World)(x:Dx)(hr:RdD w x)(hn:∀i,i<x.ps.length→Wf (elF x.ps i).1):
  Calls Tryz.prog 131 #[.agg #[.int .i64 x.room,.slice x.a x.ps.length x.c]] w fun e w'=>e= .returned (.map (some (w.heap.size+1)))∧Tf w' (w.heap.size+1) x.ps.length (tabOf x.ps)∧Below w.heap.size w w':=by
 have W1:=Wd.made hr 52
 have XA:=zh (fun g e=>(hr.r g e).1)
 have h20:=hr.n
 have HN:=zh hn
 clear hr hn
 have S1:(w.alloc (.cells #[.int .i64 x.room,.slice x.a x.ps.length x.c] 52)).heap.size=w.heap.size+1:=by simp
 have T0:=tf_made (w.alloc (.cells #[.int .i64 x.room,.slice x.a x.ps.length x.c] 52))
 rw[S1] at T0
 have G0:=zh (And.intro (W1.step (one_more _ (.map #[] 0))) T0)
 have hmm:= @run_makeMap Tryz.prog
 clear W1 S1 T0
 go_enter Tryz.func131,Tryz.ntmps131
 go_wp2
 go_loopw [10] (fun i wr=>∃(k:Nat),k≤x.ps.length∧i= .int .i64 k∧Hid (Wd w wr x)∧Hid (Tf wr (w.heap.size+1) k (tabN x.ps k))) (fun i _=>x.ps.length-(intOf i).toNat)
 case atStart=>exact⟨0,by omega,rfl,zh (zu G0).1,zh (zu G0).2⟩
 case round=>
  clear G0
  obtain⟨k,hk,rfl,HW,HT⟩:=hrel
  by_cases t:k<x.ps.length
  ·have kt:(k:Int)<x.ps.length:=by omega
   obtain⟨g,ea,lg,e0,e1,e2⟩:=cells_of (zu HW).r t
   have lt:=(zu HW).lt
   have IX:=SCom14.ixF x.c ea t
   have WF:=(zu HN) k t
   have PR:elF x.ps k=((elF x.ps k).1,(elF x.ps k).2.1,(elF x.ps k).2.2):=rfl
   have TE:=zh (show tabN x.ps (k+1)=upd (tabN x.ps k) (elF x.ps k).1 (some ((elF x.ps k).1,(elF x.ps k).2.1,(elF x.ps k).2.2)) from rfl)
   generalize tabN x.ps k=f at *
   clear PR
   generalize (elF x.ps k).1=z0 at *
   generalize (elF x.ps k).2.1=z1 at *
   generalize (elF x.ps k).2.2=z2 at *
   clear ea
   have OB:=one_more wr (.cells #[.int .i64 z0,.string z1,.string z2] 120)
   have HW2:=zh ((zu HW).step OB)
   have HT2:=zh ((zu HT).below OB)
   clear OB HW HT
   go_wp2_with (first|(at_mapUpdate;refine wp_put _ rfl _ _ _ rfl (w.heap.size+1) k _ rfl (zu HT2) (by omega) z0 (z0,z1,z2) rfl rfl WF ?_;intro w1 t1 g1)|go_in)
   go_roundw
   case rel=>exact⟨k+1,by omega,by go_num,zh (wd_grown (zu HW2) g1 (by omega) (fun g e=>by have:=(zu XA) g e;omega)),zh (by rw[zu TE];exact t1)⟩
   case measure=>simp[intOf];omega
  ·have e:k=x.ps.length:=by omega
   have kt:¬(k:Int)<x.ps.length:=by omega
   subst e
   go_wp2
   go_ret
   exact⟨rfl,zu HT,(zu HW).b⟩
end ITb14
namespace Okk14
open Fil14 DiskH14 SDk14 SOk14 SRd14 SLess14 SRef14 SCom14 SPut14 Pure14 SAppend14 SSync14 SMove14 SDrop14 Ok14
def Rg(r:(Int×List TF)×Int):Prop:=r.2≠1→OkD r.1.1 r.1.2
theorem ref_ok{code room:Int}{ps:List TF}(h:OkD room ps)(q:code≠1):OkD (refD code room ps).1 (refD code room ps).2:=by
 unfold refD
 rw[if_neg q]
 exact h
theorem rg_append{room:Int}{ps:List TF}(nm:Int)(s:ByteArray)(h:OkD room ps):Rg (appendD room ps nm s):=by
 unfold Rg appendD
 by_cases q:OkD room ps∧okN nm=true
 ·rw[if_pos q]
  split
  ·exact fun _=>h
  ·rename_i g
   exact fun _=>show OkD room (putF ps (appF ps nm s)) from ok_append h q.2 (by omega)
 ·rw[if_neg q]
  exact fun e=>absurd rfl e
theorem rg_sync{room:Int}{ps:List TF}(nm:Int)(h:OkD room ps):Rg (syncD room ps nm):=by
 unfold Rg syncD
 by_cases q:(atD room ps nm).2=0
 ·rw[if_pos q]
  exact fun _=>ok_sync q
 ·rw[if_neg q]
  exact fun e=>ref_ok h e
theorem rg_move{room:Int}{ps:List TF}(nm to:Int)(h:OkD room ps):Rg (moveD room ps nm to):=by
 unfold Rg moveD
 by_cases c:okN to=true∧nm≠to
 ·rw[if_pos c]
  by_cases q:(atD room ps nm).2=0
  ·rw[if_pos q]
   exact fun _=>ok_move q c.1
  ·rw[if_neg q]
   exact fun e=>ref_ok h e
 ·rw[if_neg c]
  exact fun e=>absurd rfl e
end Okk14
namespace Law14
open Fil14 OpensF14 DiskH14 DkH14 SCom14
structure La(w W:World)(k:Int)(a:Option Addr)(len cap:Nat)(ps:List TF):Prop where
 c0:W.cell? ⟨w.heap.size,0,none⟩=some (.int .i64 k)
 c1:W.cell? ⟨w.heap.size,1,none⟩=some (.slice a len cap)
 s:w.heap.size<W.heap.size
 b:Below w.heap.size w W
 r:ReadsF W a ps
section
variable {w W W':World} {k:Int} {a:Option Addr} {len cap:Nat} {ps:List TF}
theorem La.start(h:ReadsF w a ps)(e:TypeId):La w (w.alloc (.cells #[.int .i64 k,.slice a len cap] e)) k a len cap ps:=
 ⟨by simp,by simp,by simp,one_more _ _,h.below (one_more _ _)⟩
theorem La.step(h:La w W k a len cap ps)(b:Below W.heap.size W W'):La w W' k a len cap ps:=
 ⟨(b.cell (p:=⟨w.heap.size,0,none⟩) h.s).trans h.c0,(b.cell (p:=⟨w.heap.size,1,none⟩) h.s).trans h.c1,Nat.lt_of_lt_of_le h.s b.size,h.b.trans (b.mono (Nat.le_of_lt h.s)),h.r.below b⟩
theorem La.turn{B:Nat}(H:ReadsF w a ps)(h:La w W k a len cap ps)(b:Below B W W')(hB:w.heap.size<B):La w W' k a len cap ps:=by
 have q:=h.b.trans (b.mono (Nat.le_of_lt hB))
 exact⟨(b.cell (p:=⟨w.heap.size,0,none⟩) hB).trans h.c0,(b.cell (p:=⟨w.heap.size,1,none⟩) hB).trans h.c1,Nat.lt_of_lt_of_le h.s b.size,q,H.below q⟩
end
structure Kd(W:World)(g:Nat)(x:Dx):Prop where
 c0:W.cell? ⟨g,0,none⟩=some (.int .i64 x.room)
 c1:W.cell? ⟨g,1,none⟩=some (.slice x.a x.ps.length x.c)
 lt:g<W.heap.size
theorem Kd.made(w:World)(x:Dx)(e:TypeId):Kd (w.alloc (.cells #[.int .i64 x.room,.slice x.a x.ps.length x.c] e)) w.heap.size x:=⟨by simp,by simp,by simp⟩
theorem Kd.step{W W':World}{g:Nat}{x:Dx}(h:Kd W g x)(k:Below W.heap.size W W'):Kd W' g x:=
 ⟨(k.cell (p:=⟨g,0,none⟩) h.lt).trans h.c0,(k.cell (p:=⟨g,1,none⟩) h.lt).trans h.c1,Nat.lt_of_lt_of_le h.lt k.size⟩
theorem Kd.turn{W W':World}{g:Nat}{x y:Dx}(h:Kd W g x)(k:TurnD y W W')(n:some g≠(Value.slice y.a y.ps.length y.c).ownBlock):Kd W' g x:=by
 have e:W'.heap[g]?=W.heap[g]?:=k.block g h.lt n
 exact⟨(World.cell?_of_block (w:=W) e).trans h.c0,(World.cell?_of_block (w:=W) e).trans h.c1,Nat.lt_of_lt_of_le h.lt k.size⟩
theorem own_turn{W W':World}{base:Nat}{x y:Dx}(h:OwD W base x)(k:TurnD y W W')(n:∀g,(Value.slice x.a x.ps.length x.c).ownBlock=some g→some g≠(Value.slice y.a y.ps.length y.c).ownBlock):OwD W' base x:=by
 refine⟨h.1,?_⟩
 rcases h.2 with h1|⟨g,c,cur,h1,h2,h3,h4⟩
 ·exact .inl h1
 ·exact .inr ⟨g,c,cur,h1,h2,(k.block g (World.ownsRow.lt h g (by rw[h1];rfl)).2 (n g (by rw[h1];rfl))).trans h3,h4⟩
theorem own_lt{W:World}{base g:Nat}{y:Dx}(h:OwD W base y)(e:(Value.slice y.a y.ps.length y.c).ownBlock=some g):base≤g∧g<W.heap.size:=World.ownsRow.lt h g e
end Law14
namespace LenAppend14
open Fil14 OpensF14 DiskH14 DkH14 SDk14 SOk14 SRd14 App14 SLess14 SCopy14 SRef14 SCom14 SPut14 SAppend14
theorem putN_len(ps:List TF)(f:TF):∀k,(putN ps f k).1.length≤k+(if(putN ps f k).2=true then 1 else 0)
 |0=>by simp[putN]
 |k+1=>by
  have ih:=putN_len ps f k
  obtain⟨L,pb⟩:∃L,∃pb,putN ps f k=(L,pb):=⟨_,_,rfl⟩
  obtain⟨pb,e⟩:=pb
  rw[putN_succ e]
  rw[e] at ih
  simp only at ih⊢
  generalize elF ps k=p
  cases pb<;>by_cases a:f.1≤p.1<;>by_cases b:p.1=f.1<;>simp[a,b] at ih⊢<;>omega
theorem put_len(ps:List TF)(f:TF):(putF ps f).length≤ps.length+1:=by
 have h:=putN_len ps f ps.length
 unfold putF
 split
 ·rename_i q
  rw[if_pos q] at h
  exact h
 ·rename_i q
  rw[if_neg q] at h
  simp
  omega
theorem len_append{room:Int}{ps:List TF}(nm:Int)(s:ByteArray)(h:ps.length≤1048576):(appendD room ps nm s).1.2.length≤1048576:=by
 unfold appendD
 by_cases q:OkD room ps∧okN nm=true
 ·rw[if_pos q]
  split
  ·exact h
  ·have:=put_len ps (appF ps nm s)
   have:=q.1.2.1
   show(putF _ _).length≤_
   omega
 ·rw[if_neg q]
  simp
end LenAppend14
namespace LenSync14
open Fil14 OpensF14 DiskH14 DkH14 SDk14 SOk14 SRd14 App14 SLess14 SCopy14 SRef14 SCom14 SPut14 SSync14
theorem ref_len{code room:Int}{ps:List TF}(h:ps.length≤1048576):(refD code room ps).2.length≤1048576:=by
 unfold refD
 split
 ·simp
 ·exact h
theorem putN_len(ps:List TF)(f:TF):∀k,(putN ps f k).1.length≤k+(if(putN ps f k).2=true then 1 else 0)
 |0=>by simp[putN]
 |k+1=>by
  have ih:=putN_len ps f k
  obtain⟨L,pb⟩:∃L,∃pb,putN ps f k=(L,pb):=⟨_,_,rfl⟩
  obtain⟨pb,e⟩:=pb
  rw[putN_succ e]
  rw[e] at ih
  simp only at ih⊢
  generalize elF ps k=p
  cases pb<;>by_cases a:f.1≤p.1<;>by_cases b:p.1=f.1<;>simp[a,b] at ih⊢<;>omega
theorem put_len(ps:List TF)(f:TF):(putF ps f).length≤ps.length+1:=by
 have h:=putN_len ps f ps.length
 unfold putF
 split
 ·rename_i q
  rw[if_pos q] at h
  exact h
 ·rename_i q
  rw[if_neg q] at h
  simp
  omega
theorem len_sync{room:Int}{ps:List TF}(nm:Int)(h:ps.length≤1048576):(syncD room ps nm).1.2.length≤1048576:=by
 unfold syncD
 by_cases q:(atD room ps nm).2=0
 ·rw[if_pos q]
  have:=put_len ps (nm,bytesAt ps (atD room ps nm).1.toNat,ByteArray.empty)
  have:=(at_in q).1.2.1
  show(putF _ _).length≤_
  omega
 ·rw[if_neg q]
  exact ref_len h
end LenSync14
namespace LenMove14
open Fil14 OpensF14 DiskH14 DkH14 SDk14 SOk14 SRd14 App14 SLess14 SCopy14 SRef14 SCom14 SPut14 SMove14
theorem ref_len{code room:Int}{ps:List TF}(h:ps.length≤1048576):(refD code room ps).2.length≤1048576:=by
 unfold refD
 split
 ·simp
 ·exact h
theorem putN_len(ps:List TF)(f:TF):∀k,(putN ps f k).1.length≤k+(if(putN ps f k).2=true then 1 else 0)
 |0=>by simp[putN]
 |k+1=>by
  have ih:=putN_len ps f k
  obtain⟨L,pb⟩:∃L,∃pb,putN ps f k=(L,pb):=⟨_,_,rfl⟩
  obtain⟨pb,e⟩:=pb
  rw[putN_succ e]
  rw[e] at ih
  simp only at ih⊢
  generalize elF ps k=p
  cases pb<;>by_cases a:f.1≤p.1<;>by_cases b:p.1=f.1<;>simp[a,b] at ih⊢<;>omega
theorem put_len(ps:List TF)(f:TF):(putF ps f).length≤ps.length+1:=by
 have h:=putN_len ps f ps.length
 unfold putF
 split
 ·rename_i q
  rw[if_pos q] at h
  exact h
 ·rename_i q
  rw[if_neg q] at h
  simp
  omega
theorem len_move{room:Int}{ps:List TF}(nm to:Int)(h:ps.length≤1048576):(moveD room ps nm to).1.2.length≤1048576:=by
 unfold moveD
 split
 ·by_cases q:(atD room ps nm).2=0
  ·rw[if_pos q]
   have:=put_len (lessN ps (atD room ps nm).1 ps.length) (to,(elF ps (atD room ps nm).1.toNat).2.1,(elF ps (atD room ps nm).1.toNat).2.2)
   have:=less_len ps (atD room ps nm).1 ps.length
   have:=(at_in q).1.2.1
   show(putF _ _).length≤_
   omega
  ·rw[if_neg q]
   exact ref_len h
 ·exact ref_len h
end LenMove14
namespace IOk14
open Fil14 OpensF14 DiskH14 DkH14 SDk14 SOk14 IFile14
def Okk(ps:List TF)(room:Int)(k:Nat)(lf y:Int):Prop:=lf=room-sumZ (ps.take k)∧(k=0→y= -1)∧(0<k→y=(elF ps (k-1)).1)∧∀i,i<k→okAt ps i
theorem okk_0(ps:List TF)(room:Int):Okk ps room 0 room (-1):=⟨by simp[sumZ],fun _=>rfl,fun h=>absurd h (by omega),fun i h=>absurd h (by omega)⟩
theorem okk_next{ps:List TF}{room:Int}{k:Nat}{lf y:Int}(h:Okk ps room k lf y)(hk:k<ps.length)(a:okN (elF ps k).1=true)(b:¬(elF ps k).1≤y):Okk ps room (k+1) (lf-((elF ps k).2.1.size+(elF ps k).2.2.size)) (elF ps k).1:=by
 obtain⟨h1,h2,h3,h4⟩:=h
 have n:=sumZ_next hk
 refine⟨by omega,fun e=>absurd e (by omega),fun _=>by simp,fun i hi=>?_⟩
 by_cases e:i=k
 ·subst e
  refine⟨a,fun p=>?_⟩
  have:=h3 p
  omega
 ·exact h4 i (by omega)
theorem okk_bad1{ps:List TF}{room:Int}{k:Nat}(hk:k<ps.length)(a:okN (elF ps k).1=false):¬OkD room ps:=fun h=>by
 have:=(h.2.2.2 k hk).1
 rw[a] at this
 cases this
theorem okk_bad2{ps:List TF}{room:Int}{k:Nat}{lf y:Int}(g:Okk ps room k lf y)(hk:k<ps.length)(a:okN (elF ps k).1=true)(b:(elF ps k).1≤y):¬OkD room ps:=fun h=>by
 have n:=(h.2.2.2 k hk).2
 have l:0≤(elF ps k).1:=(of_decide_eq_true a).1
 by_cases e:k=0
 ·have:=g.2.1 e
  omega
 ·have:=g.2.2.1 (by omega)
  have:=n (by omega)
  omega
theorem okk_bad3{ps:List TF}{room:Int}{k:Nat}{lf y:Int}(g:Okk ps room k lf y)(hk:k<ps.length)(b:lf-((elF ps k).2.1.size+(elF ps k).2.2.size)<0):¬OkD room ps:=fun h=>by
 have n:=sumZ_next hk
 have l:=sumZ_le ps (k+1)
 have:=h.2.2.1
 have:=g.1
 omega
theorem names_up{ps:List TF}(h:∀i,i<ps.length→okAt ps i):∀i:Nat,i<ps.length→(i:Int)≤(elF ps i).1
 |0=>fun q=>by
  have:=(h 0 q).1
  exact(of_decide_eq_true this).1
 |i+1=>fun q=>by
  have:=names_up h i (by omega)
  have:=(h (i+1) q).2 (by omega)
  simp only[Nat.add_sub_cancel] at this
  omega
theorem okk_all{ps:List TF}{room:Int}{lf y:Int}(g:Okk ps room ps.length lf y)(h0:0≤room∧room≤60000)(hl:0≤lf):OkD room ps:=by
 obtain⟨h1,_,_,h4⟩:=g
 rw[List.take_length] at h1
 refine⟨h0,?_,by omega,h4⟩
 by_cases e:ps.length=0
 ·omega
 ·have a:=names_up h4 (ps.length-1) (by omega)
  have b:=(h4 (ps.length-1) (by omega)).1
  have b:=(of_decide_eq_true b).2
  omega
theorem iDiskOk(w:World)(x:Dx)(hr:RdD w x)(hz:sumZ x.ps≤1048576):
  Calls Tryz.prog 45 #[.agg #[.int .i64 x.room,.slice x.a x.ps.length x.c]] w fun e w'=>e= .returned (.bool (decide (OkD x.room x.ps)))∧Below w.heap.size w w':=by
 have W0:=zh (Wd.made hr 52)
 have h20:=hr.n
 clear hr
 generalize hR:decide (OkD x.room x.ps)=R
 have HR:=zh hR
 clear hR
 by_cases q0:x.room<0
 ·obtain rfl:R=false:=by rw[←zu HR];exact decide_eq_false (fun h=>by have:=h.1;omega)
  clear HR
  go_enter Tryz.func45,Tryz.ntmps45
  go_wp2
  go_ret
  exact⟨rfl,(zu W0).b⟩
 have d0:decide (x.room<0)=false:=decide_eq_false q0
 by_cases q1:x.room>60000
 ·obtain rfl:R=false:=by rw[←zu HR];exact decide_eq_false (fun h=>by have:=h.1;omega)
  clear HR q0
  go_enter Tryz.func45,Tryz.ntmps45
  go_wp2
  go_ret
  exact⟨rfl,(zu W0).b⟩
 have d1:decide (x.room>60000)=false:=decide_eq_false q1
 have RM:=zh (show 0≤x.room∧x.room≤60000 by omega)
 have OK0:=zh (okk_0 x.ps x.room)
 clear q0 q1
 go_enter Tryz.func45,Tryz.ntmps45
 go_wp2
 go_loopw [3,4,20] (fun l b i wr=>∃(k:Nat) (lf y:Int),k≤x.ps.length∧i= .int .i64 k∧l= .int .i64 lf∧b= .int .i64 y∧0≤lf∧lf≤60000∧Hid (Okk x.ps x.room k lf y)∧Hid (Wd w wr x)) (fun _ _ i _=>x.ps.length-(intOf i).toNat)
 case atStart=>exact⟨0,x.room,-1,by omega,rfl,rfl,rfl,(zu RM).1,(zu RM).2,OK0,W0⟩
 case round=>
  clear W0 OK0 d0 d1
  obtain⟨k,lf,y,hk,rfl,rfl,rfl,y0,y1,HY,HW⟩:=hrel
  by_cases t:k<x.ps.length
  ·have kt:(k:Int)<x.ps.length:=by omega
   have NX:=sumZ_next t
   have LE:=sumZ_le x.ps (k+1)
   have BAD1:=zh (fun a=>okk_bad1 (room:=x.room) t a)
   have BAD2:=zh (fun a b=>okk_bad2 (zu HY) t a b)
   have BAD3:=zh (fun a=>okk_bad3 (zu HY) t a)
   have GO:=zh (fun a b=>okk_next (zu HY) t a b)
   obtain⟨g,ea,lg,e0,e1,e2⟩:=cells_of (zu HW).r t
   have c1:=(zu HW).c1
   have lt:=(zu HW).lt
   generalize (elF x.ps k).1=z0 at *
   generalize (elF x.ps k).2.1=z1 at *
   generalize (elF x.ps k).2.2=z2 at *
   have b1:z1.size+z2.size≤1048576:=by omega
   obtain⟨lg2,hl⟩:∃q,q=lf-((z1.size:Int)+z2.size):=⟨_,rfl⟩
   have a2:wrap64 (lf-((z1.size:Int)+z2.size))=lg2:=by rw[wrap64];omega
   have S3:=zh (fun h:¬lg2<0=>show 0≤lg2∧lg2≤60000 by omega)
   have BAD4:=zh (fun h:lg2<0=>(zu BAD3) (by rw[←hl];exact h))
   rw[←hl] at GO
   clear hl BAD3
   clear NX LE HY
   have IX:=SCom14.ixF x.c ea t
   clear ea c1
   have OB:=zh (one_more wr (.cells #[.int .i64 z0,.string z1,.string z2] 120))
   have F0:(wr.alloc (.cells #[.int .i64 z0,.string z1,.string z2] 120)).cell? ⟨wr.heap.size,0,none⟩=some (.int .i64 z0):=by simp[go_sem]
   have FS:wr.heap.size<(wr.alloc (.cells #[.int .i64 z0,.string z1,.string z2] 120)).heap.size:=by simp
   have F:=zh (And.intro F0 FS)
   clear F0 FS
   go_wp2_with fail
   refine(iSizeF _ z0 z1 z2 b1).mono ?_
   rintro e w2 ⟨rfl,bb⟩
   have f0:=(bb.cell (p:=⟨wr.heap.size,0,none⟩) (zu F).2).trans (zu F).1
   have HW2:=zh (((zu HW).step (zu OB)).step bb)
   clear bb OB F HW e0 e1 e2 IX
   have D:=zh (fun u b h=>iNameB u z0 b h)
   clear b1
   by_cases n1:okN z0=true
   ·have N1:=zh n1
    clear n1
    by_cases n2:z0≤y
    ·obtain rfl:R=false:=by rw[←zu HR];exact decide_eq_false ((zu BAD2) (zu N1) n2)
     clear BAD1 BAD2 BAD4 GO HR
     go_wp2_with fail
     refine(zu D _ true (zu N1)).mono ?_
     rintro e u ⟨rfl,rfl⟩
     go_wp2
     go_ret
     exact⟨rfl,(zu HW2).b⟩
    ·have n2':decide (z0≤y)=false:=decide_eq_false n2
     have GO':=zh ((zu GO) (zu N1) (by omega))
     clear n2 GO BAD1 BAD2
     by_cases n3:lg2<0
     ·obtain rfl:R=false:=by rw[←zu HR];exact decide_eq_false ((zu BAD4) n3)
      clear BAD4 GO' HR
      go_wp2_with fail
      refine(zu D _ true (zu N1)).mono ?_
      rintro e u ⟨rfl,rfl⟩
      go_wp2
      go_ret
      exact⟨rfl,(zu HW2).b⟩
     ·have n3':decide (lg2<0)=false:=decide_eq_false n3
      have S:=zh ((zu S3) (by omega))
      clear n3 BAD4
      go_wp2_with fail
      refine(zu D _ true (zu N1)).mono ?_
      rintro e u ⟨rfl,rfl⟩
      go_wp2
      go_roundw
      case rel=>exact⟨k+1,lg2,z0,by omega,by go_num,rfl,rfl,(zu S).1,(zu S).2,GO',HW2⟩
      case measure=>simp[intOf];omega
   ·have n1':okN z0=false:=by simpa using n1
    obtain rfl:R=false:=by rw[←zu HR];exact decide_eq_false ((zu BAD1) n1')
    have N1:=zh n1'
    clear BAD1 BAD2 BAD4 GO HR n1 n1'
    go_wp2_with fail
    refine(zu D _ false (zu N1)).mono ?_
    rintro e u ⟨rfl,rfl⟩
    go_wp2
    go_ret
    exact⟨rfl,(zu HW2).b⟩
  ·have e:k=x.ps.length:=by omega
   have kt:¬(k:Int)<x.ps.length:=by omega
   obtain rfl:R=true:=by rw[←zu HR];exact decide_eq_true (okk_all (by rw[←e];exact zu HY) (zu RM) y0)
   clear HY HR
   subst e
   go_wp2
   go_ret
   exact⟨rfl,(zu HW).b⟩
end IOk14
namespace ICp14
open Fil14 OpensF14 DiskH14 DkH14 SDk14 SOk14 SRd14 App14 SLess14 SCopy14 SRef14 SCom14
theorem run_copyF(w:World)(g dCap:Nat)(sp:Option Addr)(sCap:Nat)(ps:List TF)(cur:Array Value)(t ty:TypeId)(hg:w.heap[g]?=some (.cells cur t (0,0)))(hc:cur.size=ps.length*3)(hs:ps.length=0∨∃vb,sp=some ⟨vb,0,none⟩∧AtF w vb ps):
  (Builtin.copy_ #[50,50] ty #[.slice (some ⟨g,0,none⟩) ps.length dCap,.slice sp ps.length sCap]).run Tryz.prog w= .ok (.int .i64 ps.length) (w.setRow g (flatF ps).toArray):=by
 obtain⟨i0,hi,hz0,hz1,hz2⟩:=info_parts HelpF14.info2
 rcases hs with h0|⟨vb,rfl,ha⟩
 ·have e:ps=[]:=List.length_eq_zero_iff.1 h0
  subst e
  have ec:cur= #[]:=Array.eq_empty_of_size_eq_zero (by simpa using hc)
  subst ec
  rw[show(flatF []).toArray= #[] from rfl,setRow_self w g #[] t (0,0) hg]
  cases sp<;>simp[Builtin.copy_,run_underlying Tryz.underlying50,Builtin.lenOf,Builtin.firstCells,sizeOf,typeInfo,hi,hz1,storeCells,loadCells,loadCellsFrom,goInt]
 ·have hl:=run_loadCells_list (P:=Tryz.prog) w ⟨vb,0,none⟩ (flatF ps) ha.cells
  have hst:=run_storeCells_at Tryz.prog g 0 t (flatF ps) 0 cur w hg (by rw[flatF_len,hc];omega) (fun u hu=>flatF_one u ps hu)
  rw[flatF_len] at hl
  have hd:cur.toList.drop (ps.length*3)=[]:=by rw[List.drop_eq_nil_iff];simp[hc]
  simp only[flatF_len,Nat.zero_add,Nat.add_zero,List.take_zero,List.nil_append,hd,List.append_nil] at hst
  simp[Builtin.copy_,run_underlying Tryz.underlying50,Builtin.lenOf,Builtin.firstCells,sizeOf,typeInfo,hi,hz1,hl,hst,goInt]
theorem wp_copyF(w:World){ops:Array Oper}{rest:List Oper}{o:Oper}{a:Act}{Q:Exit→Act→World→Prop}(hgd:o.guard=none)(d s:Operand)
  (ho:o.op= .call {callee:= .builtin .copy,args:= #[d,s],argTypes:= #[50,50]})(base g:Nat)(ps:List TF)(old:List Value)(sp:Option Addr)(sCap:Nat)(hd:a.eval d= .slice (some ⟨g,0,none⟩) ps.length ps.length)(hs:a.eval s= .slice sp ps.length sCap)
  (hown:w.ownsRow base 120 3 (.slice (some ⟨g,0,none⟩) ps.length ps.length) ps.length old)(hq:ps.length=0∨∃vb,sp=some ⟨vb,0,none⟩∧AtF w vb ps)
  (h:∀w',w'.ownsRow base 120 3 (.slice (some ⟨g,0,none⟩) ps.length ps.length) ps.length (flatF ps)→w.grownBy w' (some g)→wpList Tryz.prog ops Q rest (a.put o.dst (.int .i64 ps.length)) w'):wpList Tryz.prog ops Q (o::rest) a w:=by
 rcases hown.2 with⟨h1,_⟩|⟨g',c,cur,h1,h2,h3,h4,h5,h6,h7⟩
 ·simp at h1
 obtain⟨rfl,rfl⟩:g=g'∧ps.length=c:=by simpa using h1
 refine wpList_plain hgd fun K hK=>?_
 have hrun:=run_copyF w g ps.length sp sCap ps cur 120 o.type h3 h6 hq
 unfold Oper.wp
 simp[execOp,ho,resolve,invoke,builtin,hd,hs,hrun,Result.andThen]
 refine hK _ _ (h _ ⟨flatF_len ps,.inr ⟨g,ps.length,(flatF ps).toArray,rfl,h2,setRow_heap w g cur _ _ _ h3,Nat.le_refl _,h5,by simp[flatF_len],?_⟩⟩ ⟨rfl,rfl,rfl,by simp[World.setRow],fun k hk hne=>setRow_other w g k _ (fun e=>hne (by rw[e]))⟩)
 simp[←flatF_len]
theorem mid{w w1:World}{x:Dx}{vs:List Value}(h:Wd w ((w.alloc (.cells #[.int .i64 x.room,.slice x.a x.ps.length x.c] 52)).alloc (.cells #[.int .i64 0,.slice none 0 0] 52)) x∧Bc ((w.alloc (.cells #[.int .i64 x.room,.slice x.a x.ps.length x.c] 52)).alloc (.cells #[.int .i64 0,.slice none 0 0] 52)) w.heap.size (w.heap.size+1) (.int .i64 0) (.slice none 0 0))
  (ho:w1.ownsRow (w.heap.size+2) 120 3 (.slice (some ⟨((w.alloc (.cells #[.int .i64 x.room,.slice x.a x.ps.length x.c] 52)).alloc (.cells #[.int .i64 0,.slice none 0 0] 52)).heap.size,0,none⟩) x.ps.length x.ps.length) x.ps.length vs)(hg:((w.alloc (.cells #[.int .i64 x.room,.slice x.a x.ps.length x.c] 52)).alloc (.cells #[.int .i64 0,.slice none 0 0] 52)).grownBy w1 none):
  Wd w w1 x∧Bc w1 w.heap.size (w.heap.size+1) (.int .i64 0) (.slice none 0 0)∧w1.ownsRow (w.heap.size+2) 120 3 (.slice (some ⟨w.heap.size+2,0,none⟩) x.ps.length x.ps.length) x.ps.length vs∧(x.ps.length=0∨∃vb,x.a=some ⟨vb,0,none⟩∧AtF w1 vb x.ps):=by
 have d:=h.1.step (grownBy_below hg)
 refine⟨d,h.2.kept hg (by simp),?_,?_⟩
 ·have e:((w.alloc (.cells #[.int .i64 x.room,.slice x.a x.ps.length x.c] 52)).alloc (.cells #[.int .i64 0,.slice none 0 0] 52)).heap.size=w.heap.size+2:=by simp
  rw[e] at ho
  exact ho
 ·by_cases q:x.ps.length=0
  ·exact .inl q
  ·obtain⟨g,e⟩:=d.r.e q
   exact .inr ⟨g,e,(d.r.r g e).2⟩
theorem iCopied(w:World)(x:Dx)(hr:RdD w x):
  Calls Tryz.prog 46 #[.agg #[.int .i64 x.room,.slice x.a x.ps.length x.c]] w fun e w'=>∃y:Dx,y.room=x.room∧y.ps=x.ps∧e= .returned (.agg #[.int .i64 y.room,.slice y.a y.ps.length y.c])∧OwD w' w.heap.size y∧Below w.heap.size w w':=by
 obtain⟨i0,hi,hz0,hz1,hz2⟩:=info_parts HelpF14.info2
 have G0:=zh (begunD hr)
 have h20:=hr.n
 clear hr
 have SZ:=zh (show w.heap.size+2≤((w.alloc (.cells #[.int .i64 x.room,.slice x.a x.ps.length x.c] 52)).alloc (.cells #[.int .i64 0,.slice none 0 0] 52)).heap.size by simp)
 go_enter Tryz.func46,Tryz.ntmps46
 go_wp2_with (first|(at_make;refine wpList_make_full _ rfl _ _ 50 rfl (w.heap.size+2) 120 i0 (.agg #[.int .i64 0,.string ByteArray.empty,.string ByteArray.empty]) 3 Tryz.underlying50 hi hz0 hz1 .i64 .i64 _ _ x.ps.length rfl rfl rfl rfl (by rw[hz2];omega) (by unfold maxLen;omega) (zu SZ) ?_;intro w1 hown hgrow;have HM:=zh (mid (zu G0) hown hgrow);have c0:=(zu HM).1.c0;have c1:=(zu HM).1.c1;clear hown hgrow G0 SZ)|(refine wp_copyF _ rfl _ _ rfl (w.heap.size+2) (w.heap.size+2) x.ps _ x.a x.c rfl rfl (zu HM).2.2.1 (zu HM).2.2.2 ?_;intro w2 o2 g2;have O2:=zh o2;have K0:=(kcell g2 0 (zu HM).1.lt (by omega)).trans c0;have R2:=zh ((zu HM).2.1.kept g2 (by simp));have B2:=zh (grow_low (zu HM).1.b g2 ⟨by omega,(zu HM).1.b.size⟩);have r0:=(zu R2).c0;have r1:=(zu R2).c1;have f0:=(zu R2).free 0;have f1:=(zu R2).free 1;clear o2 g2 c0 c1 HM)|go_in)
 have E:=endedD (y:=⟨x.room,some ⟨w.heap.size+2,0,none⟩,x.ps.length,x.ps⟩) (zu B2) (zu R2) (zu O2) (by omega)
 refine bodyPost_ret (v:= .agg #[.int .i64 x.room,.slice (some ⟨w.heap.size+2,0,none⟩) x.ps.length x.ps.length]) (by simp[results,Tryz.results46,go_sem,r0,r1]) rfl ⟨⟨x.room,some ⟨w.heap.size+2,0,none⟩,x.ps.length,x.ps⟩,rfl,rfl,rfl,E.1,E.2⟩
end ICp14
namespace IDk14
open Fil14 OpensF14 DiskH14 DkH14 SDk14 SOk14 SRd14 App14 SLess14 SCopy14 SRef14 SCom14 SPut14 TabF14
open DkH14 (row_step)
theorem pt_step{B O:Nat}{W wr wz:World}{room:Int}{L:List TF}{a:Option Addr}{m c:Nat}(h:Pt B O W wr room L a m c)(k:Below wr.heap.size wr wz):Pt B O W wz room L a m c:=
 ⟨⟨k.os.trans h.gr.os,k.tape.trans h.gr.tape,k.output.trans h.gr.output,Nat.le_trans h.gr.size k.size,fun i hi hr=>(k.block i (Nat.lt_of_lt_of_le hi h.gr.size)).trans (h.gr.block i hi hr)⟩,h.bx.below k h.bx.lt.2,row_step h.ow k⟩
theorem iDisk(w:World)(B n:Nat)(f:Int→Option TF)(room:Int)(hT:Tf w B n f):
  Calls Tryz.prog 132 #[.map (some B),.int .i64 room] w fun e w'=>∃y:Dx,y.room=room∧y.ps=rowF f∧e= .returned (.agg #[.int .i64 y.room,.slice y.a y.ps.length y.c])∧OwD w' w.heap.size y∧Below w.heap.size w w':=by
 have F:∀W1,W1=w.alloc (.cells #[.int .i64 0,.slice none 0 0] 52)→∀W2,W2=W1.alloc (.cells #[.int .i64 room,.slice none 0 0] 52)→
   Bc W2 w.heap.size w.heap.size (.int .i64 0) (.slice none 0 0)∧Bc W2 w.heap.size (w.heap.size+1) (.int .i64 room) (.slice none 0 0)∧Tf W2 B n f∧Below w.heap.size w W2∧W2.heap.size=w.heap.size+2:=by
  intro W1 h1 W2 h2
  have s1:W1.heap.size=w.heap.size+1:=by rw[h1];simp
  have s2:W2.heap.size=w.heap.size+2:=by rw[h2];simp[s1]
  have b1:Below w.heap.size w W1:=by rw[h1];exact one_more _ _
  have b2:Below W1.heap.size W1 W2:=by rw[h2];exact one_more _ _
  have R1:Bc W1 w.heap.size w.heap.size (.int .i64 0) (.slice none 0 0):=by rw[h1];exact Bc.made _ _ (Nat.le_refl _) rfl
  have O1:Bc W2 w.heap.size (w.heap.size+1) (.int .i64 room) (.slice none 0 0):=by rw[h2];exact Bc.made _ _ (by omega) s1.symm
  exact⟨R1.below b2 (by omega),O1,(hT.below b1).below b2,b1.trans (b2.mono b1.size),s2⟩
 have G0:=zh (F _ rfl _ rfl)
 have hB:=hT.lt
 clear F hT
 go_enter Tryz.func132,Tryz.ntmps132
 go_wp2
 generalize (w.alloc (.cells #[.int .i64 0,.slice none 0 0] 52)).alloc (.cells #[.int .i64 room,.slice none 0 0] 52)=W at *
 obtain⟨RB,OB,TW,BW,s3⟩:=zu G0
 have HRB:=zh RB
 have HTW:=zh TW
 have HBW:=zh BW
 have hO:w.heap.size+1<W.heap.size:=by omega
 have hb:W.heap.size=w.heap.size+2:=s3
 clear G0 RB TW BW
 go_loopw [11] (fun i wr=>∃(k m c:Nat) (a:Option Addr),i= .int .i64 k∧k≤22∧m≤k∧Hid (Pt w.heap.size (w.heap.size+1) W wr room (rowN f k) a m c)) (fun i _=>22-(intOf i).toNat)
 case atStart=>exact⟨0,0,0,none,rfl,by omega,by omega,zh ⟨World.grownBy.refl _ _,OB,⟨rfl,.inl ⟨rfl,rfl⟩⟩⟩⟩
 case round=>
  clear OB
  obtain⟨k,m,c,a,rfl,hk,hm,HPt⟩:=hrel
  have bo:=(zu HPt).bx.c1
  have lo:=(zu HPt).bx.lt.2
  have vs:=(zu HPt).gr.size
  by_cases t:k<22
  ·have kt:(k:Int)<22:=by omega
   have WF:Wf (k:Int):=wf_low ⟨by omega,by omega⟩
   have HT:=zh ((zu HTW).kept (zu HPt).gr (by simp;omega))
   have NX:=zh (show rowN f (k+1)=rowN f k++(f k).toList from rfl)
   cases hf:f k with
   |none=>
    have HP:(f k).getD z0=(0,ByteArray.empty,ByteArray.empty):=by rw[hf];rfl
    have HI:(f k).isSome=false:=by rw[hf];rfl
    rw[hf] at NX
    have P1:=zh (pt_step (zu HPt) (one_more wr (.cells #[.int .i64 0,.string ByteArray.empty,.string ByteArray.empty] 120)))
    clear hf HPt bo
    go_wp2_with (first|(at_lookup;refine wp_have _ rfl _ _ rfl B n f rfl (zu HT) k rfl WF _ false HP HI ?_)|go_in)
    go_roundw
    case rel=>exact⟨k+1,m,c,a,by go_num,by omega,by omega,by rw[zu NX,Option.toList_none,List.append_nil];exact P1⟩
    case measure=>simp[intOf];omega
   |some p=>
    obtain⟨p0,p1,p2⟩:=p
    have HP:(f k).getD z0=(p0,p1,p2):=by rw[hf];rfl
    have HI:(f k).isSome=true:=by rw[hf];rfl
    rw[hf] at NX
    clear hf
    have P1:=zh (pt_step (zu HPt) (one_more wr (.cells #[.int .i64 p0,.string p1,.string p2] 120)))
    have SA:(wr.alloc (.cells #[.int .i64 p0,.string p1,.string p2] 120)).heap.size=wr.heap.size+1:=by simp
    have q0:(wr.alloc (.cells #[.int .i64 p0,.string p1,.string p2] 120)).cell? ⟨wr.heap.size,0,none⟩=some (.int .i64 p0):=by simp[go_sem]
    have q1:(wr.alloc (.cells #[.int .i64 p0,.string p1,.string p2] 120)).cell? ⟨wr.heap.size,1,none⟩=some (.string p1):=by simp[go_sem]
    have q2:(wr.alloc (.cells #[.int .i64 p0,.string p1,.string p2] 120)).cell? ⟨wr.heap.size,2,none⟩=some (.string p2):=by simp[go_sem]
    have LC:=zh (show ∀j v,[Value.int .i64 p0,.string p1,.string p2][j]?=some v→((wr.alloc (.cells #[.int .i64 p0,.string p1,.string p2] 120)).alloc (.cells #[.int .i64 p0,.string p1,.string p2] 120)).cell? ⟨wr.heap.size+1,j,none⟩=some v by
     have h:=litm (wr.alloc (.cells #[.int .i64 p0,.string p1,.string p2] 120)) [.int .i64 p0,.string p1,.string p2] 120 _ rfl
     rw[SA] at h
     exact h)
    clear SA
    have bo1:=(zu P1).bx.c1
    have vs1:=zh (zu P1).gr.size
    have lo1:=(zu P1).bx.lt.2
    clear HPt bo
    go_wp2_with (first|(at_lookup;refine wp_have _ rfl _ _ rfl B n f rfl (zu HT) k rfl WF _ true HP HI ?_)|(at_builtin;refine wp_app _ rfl _ _ rfl W.heap.size (.slice a m c) m (flatF (rowN f k)) (wr.heap.size+1) [.int .i64 p0,.string p1,.string p2] rfl rfl (row_step (zu P1).ow (one_more _ (.cells #[.int .i64 p0,.string p1,.string p2] 120))) rfl (zu LC) (by simp[Value.oneCell']) (by omega) (Nat.le_trans (zu vs1) (by simp)) ?_;intro g8 c8 u8 o8 gr8;have PA:=(zu P1).app (p:=(p0,p1,p2)) hO (one_more _ (.cells #[.int .i64 p0,.string p1,.string p2] 120)) gr8 o8;have bx8:=PA.1;have b80:=bx8.c1;have b81:=bx8.free 1;have P8:=zh PA.2;clear o8 gr8 PA bx8 bo1)|go_in)
    go_roundw
    case rel=>exact⟨k+1,m+1,c8,some ⟨g8,0,none⟩,by go_num,by omega,by omega,by rw[zu NX];exact P8⟩
    case measure=>simp[intOf];omega
  ·have e:k=22:=by omega
   subst e
   have B0:=(zu HPt).bx.c0
   have Rk:=zh ((zu HRB).kept (zu HPt).gr (by simp))
   have e0:=(zu Rk).free 0
   have e1:=(zu Rk).free 1
   have r0:=(zu Rk).c0
   have r1:=(zu Rk).c1
   have LM:=zh (show(rowN f 22).length=m by
    have:=(zu HPt).ow.1
    rw[flatF_len] at this
    omega)
   have t0:=(zu Rk).set0 (.int .i64 room)
   have t1:=bc_set1 t0.1 (.slice a m c)
   have ST:=zh (grow_grow t0.2 t1.2)
   have BB:=zh (grow_low (zu HBW) (zu HPt).gr (by omega))
   clear t0 t1
   go_wp2
   refine bodyPost_ret (v:= .agg #[.int .i64 room,.slice a m c]) (by simp[results,Tryz.results132,go_sem,r0,r1]) rfl ⟨⟨room,a,c,rowN f 22⟩,rfl,rfl,by simp[zu LM],?_,?_⟩
   ·unfold OwD
    simp only[zu LM]
    exact row_base (row_kept (zu HPt).ow (zu ST) (by omega)) (by omega)
   ·exact grow_low (zu BB) (zu ST) (by omega)
end IDk14
namespace PTab14
open Fil14 DiskH14 SDk14 SOk14 SRd14 SLess14 SPut14 Pure14 TabF14
structure Tl(f:Int→Option TF)(ps:List TF):Prop where
 asc:Asc ps
 nam:Named ps
 iff:∀k q,f k=some q↔q∈ps∧q.1=k
theorem tabN_hit{ps:List TF}(h:Asc ps):∀k,k≤ps.length→∀i,i<k→tabN ps k (elF ps i).1=some (elF ps i)
 |0=>fun _ i hi=>absurd hi (by omega)
 |k+1=>fun hk i hi=>by
  unfold tabN upd
  by_cases e:i=k
  ·subst e
   rw[if_pos rfl]
  ·have:=asc_lt h (i:=i) (j:=k) (by omega) (by omega)
   rw[if_neg (by omega)]
   exact tabN_hit h k (by omega) i (by omega)
theorem tabN_in{ps:List TF}:∀k,k≤ps.length→∀j q,tabN ps k j=some q→q∈ps∧q.1=j
 |0=>fun _ j q e=>by simp[tabN] at e
 |k+1=>fun hk j q e=>by
  unfold tabN upd at e
  by_cases c:j=(elF ps k).1
  ·rw[if_pos c] at e
   have e':elF ps k=q:=by simpa using e
   rw[←e']
   exact⟨elF_mem (by omega),c.symm⟩
  ·rw[if_neg c] at e
   exact tabN_in k (by omega) j q e
theorem tl_tab{ps:List TF}(h:Asc ps)(hn:Named ps):Tl (tabOf ps) ps:=by
 refine⟨h,hn,fun k q=>⟨fun e=>tabN_in _ (Nat.le_refl _) k q e,fun⟨m,e⟩=>?_⟩⟩
 obtain⟨i,hi,rfl⟩:=mem_elF m
 rw[←e]
 exact tabN_hit h _ (Nat.le_refl _) i hi
theorem tl_put{f:Int→Option TF}{ps:List TF}(h:Tl f ps)(p:TF)(hp:0≤p.1∧p.1≤21):Tl (upd f p.1 (some p)) (putF ps p):=by
 refine⟨put_asc p h.asc,put_named h.asc h.nam hp,fun k q=>?_⟩
 rw[put_mem h.asc]
 unfold upd
 by_cases c:k=p.1
 ·rw[if_pos c]
  constructor
  ·intro e
   have e':p=q:=by simpa using e
   exact⟨.inl e'.symm,by rw[←e',c]⟩
  ·rintro⟨e|⟨_,e⟩,e2⟩
   ·rw[e]
   ·exact absurd (e2.trans c) e
 ·rw[if_neg c,h.iff]
  constructor
  ·rintro⟨a,b⟩
   exact⟨.inr ⟨a,by rw[b];exact c⟩,b⟩
  ·rintro⟨e|⟨a,_⟩,b⟩
   ·exact absurd (by rw[←b,e]) c
   ·exact⟨a,b⟩
theorem tl_less{f:Int→Option TF}{ps:List TF}(h:Tl f ps){k:Nat}(hk:k<ps.length):Tl (upd f (elF ps k).1 none) (lessN ps k ps.length):=by
 refine⟨less_asc h.asc hk,fun p hp=>h.nam p ((less_mem h.asc hk).1 hp).1,fun j q=>?_⟩
 rw[less_mem h.asc hk]
 unfold upd
 by_cases c:j=(elF ps k).1
 ·rw[if_pos c]
  constructor
  ·intro e
   cases e
  ·rintro⟨⟨_,a⟩,b⟩
   exact absurd (b.trans c) a
 ·rw[if_neg c,h.iff]
  constructor
  ·rintro⟨a,b⟩
   exact⟨⟨a,by rw[b];exact c⟩,b⟩
  ·rintro⟨⟨a,_⟩,b⟩
   exact⟨a,b⟩
theorem row_mem{f:Int→Option TF}(p:TF):∀n,p∈rowN f n↔∃k:Nat,k<n∧f k=some p
 |0=>by simp[rowN]
 |n+1=>by
  rw[rowN,List.mem_append,row_mem p n]
  constructor
  ·rintro(⟨k,a,b⟩|h)
   ·exact⟨k,by omega,b⟩
   ·exact⟨n,by omega,by simpa using h⟩
  ·rintro⟨k,a,b⟩
   by_cases e:k=n
   ·subst e
    exact .inr (by simpa using b)
   ·exact .inl ⟨k,by omega,b⟩
theorem row_asc{f:Int→Option TF}(h:∀k q,f k=some q→q.1=k):∀n,Asc (rowN f n)
 |0=>by simp[rowN,Asc]
 |n+1=>by
  unfold Asc rowN
  rw[List.pairwise_append]
  refine⟨row_asc h n,?_,fun p hp q hq=>?_⟩
  ·cases f n<;>simp
  ·obtain⟨k,a,b⟩:=(row_mem p n).1 hp
   have e1:=h _ _ b
   have e2:=h n q (by simpa using hq)
   omega
theorem asc_ext:∀{l r:List TF},Asc l→Asc r→(∀p,p∈l↔p∈r)→l=r
 |[],[]=>fun _ _ _=>rfl
 |[],b::r=>fun _ _ h=>absurd ((h b).2 (by simp)) (by simp)
 |a::l,[]=>fun _ _ h=>absurd ((h a).1 (by simp)) (by simp)
 |a::l,b::r=>fun ha hb h=>by
  unfold Asc at ha hb
  rw[List.pairwise_cons] at ha hb
  have e:a=b:=by
   have h1:=(h a).1 (by simp)
   have h2:=(h b).2 (by simp)
   simp only[List.mem_cons] at h1 h2
   rcases h1 with h1|h1
   ·exact h1
   ·rcases h2 with h2|h2
    ·exact h2.symm
    ·have:=ha.1 b h2
     have:=hb.1 a h1
     omega
  subst e
  rw[asc_ext ha.2 hb.2 (fun p=>?_)]
  have:=h p
  simp only[List.mem_cons] at this
  constructor
  ·intro m
   rcases this.1 (.inr m) with e|e
   ·subst e
    have:=ha.1 p m
    omega
   ·exact e
  ·intro m
   rcases this.2 (.inr m) with e|e
   ·subst e
    have:=hb.1 p m
    omega
   ·exact e
theorem tl_row{f:Int→Option TF}{ps:List TF}(h:Tl f ps):rowF f=ps:=by
 refine asc_ext (row_asc (fun k q e=>((h.iff k q).1 e).2) 22) h.asc (fun p=>?_)
 unfold rowF at *
 rw[row_mem]
 constructor
 ·rintro⟨k,_,e⟩
  exact((h.iff k p).1 e).1
 ·intro m
  have n:=h.nam p m
  exact⟨p.1.toNat,by omega,(h.iff _ _).2 ⟨m,by omega⟩⟩
theorem tl_no{f:Int→Option TF}{ps:List TF}(h:Tl f ps){nm:Int}(e:findF ps nm<0):f nm=none:=by
 cases q:f nm with
 |none=>rfl
 |some p=>
  have:=(h.iff nm p).1 q
  exact absurd this.2 (find_neg e p this.1)
theorem tl_yes{f:Int→Option TF}{ps:List TF}(h:Tl f ps){nm:Int}{k:Nat}(hk:k<ps.length)(e:(elF ps k).1=nm):f nm=some (elF ps k):=(h.iff _ _).2 ⟨elF_mem hk,e⟩
theorem tl_ok{room:Int}{ps:List TF}(h:OkD room ps):Tl (tabOf ps) ps:=tl_tab (asc_of h).1 (asc_of h).2
theorem wf_names{room:Int}{ps:List TF}(h:OkD room ps):∀i,i<ps.length→Wf (elF ps i).1:=fun i hi=>wf_ok (h.2.2.2 i hi).1
theorem el_size{ps:List TF}(hz:sumZ ps≤1048576){k:Nat}(hk:k<ps.length):(elF ps k).2.1.size+(elF ps k).2.2.size≤1048576:=by
 have:=sumZ_next hk
 have:=sumZ_le ps (k+1)
 omega
end PTab14
namespace ICom14
open Fil14 OpensF14 DiskH14 DkH14 SDk14 SOk14 SRd14 SLess14 SCom14 TabF14 ITb14
theorem iOkB(w:World)(x:Dx)(b:Bool)(hr:RdD w x)(hz:sumZ x.ps≤1048576)(h:decide (OkD x.room x.ps)=b):Calls Tryz.prog 45 #[.agg #[.int .i64 x.room,.slice x.a x.ps.length x.c]] w fun e w'=>e= .returned (.bool b)∧Below w.heap.size w w':=by
 rw[←h]
 exact IOk14.iDiskOk w x hr hz
structure St(w u:World)(x:Dx)(B n:Nat)(f:Int→Option TF):Prop where
 d:Wd w u x
 r:Bc u w.heap.size (w.heap.size+1) (.int .i64 0) (.slice none 0 0)
 t:Tf u B n f
 b:w.heap.size+2≤B
 xa:∀g,x.a=some ⟨g,0,none⟩→g<w.heap.size
theorem St.step{w u u':World}{x:Dx}{B n:Nat}{f:Int→Option TF}(h:St w u x B n f)(k:Below u.heap.size u u'):St w u' x B n f:=
 ⟨h.d.step k,h.r.below k h.r.lt.2,h.t.below k,h.b,h.xa⟩
theorem St.turn{w u u':World}{x:Dx}{B n n':Nat}{f f':Int→Option TF}(h:St w u x B n f)(t:Tf u' B n' f')(g:u.grownBy u' (some B)):St w u' x B n' f':=by
 have hb:=h.b
 exact⟨wd_grown h.d g (by omega) (fun k e=>by have:=h.xa k e;omega),h.r.kept g (by simp;omega),t,hb,h.xa⟩
theorem at_bad{room:Int}{ps:List TF}{nm:Int}(h:¬(OkD room ps∧okN nm=true)):atD room ps nm=(-1,1):=by
 unfold atD
 rw[if_neg h]
theorem at_none{room:Int}{ps:List TF}{nm:Int}(h1:OkD room ps)(h2:okN nm=true)(h:findF ps nm<0):atD room ps nm=(findF ps nm,2):=by
 unfold atD
 rw[if_pos ⟨h1,h2⟩,if_pos h]
theorem at_yes{room:Int}{ps:List TF}{nm:Int}{k:Nat}(h1:OkD room ps)(h2:okN nm=true)(h:findF ps nm=k):atD room ps nm=((k:Int),0):=by
 unfold atD
 rw[if_pos ⟨h1,h2⟩,h,if_neg (by omega)]
end ICom14
namespace ISz14
open Fil14 OpensF14 DiskH14 DkH14 SDk14 SOk14 IFile14
theorem iSizeD(w:World)(x:Dx)(hr:RdD w x)(hz:sumZ x.ps≤1048576):
  Calls Tryz.prog 133 #[.agg #[.int .i64 x.room,.slice x.a x.ps.length x.c]] w fun e w'=>e= .returned (.int .i64 (sumZ x.ps))∧Below w.heap.size w w':=by
 have W0:=zh (Wd.made hr 52)
 have h20:=hr.n
 clear hr
 go_enter Tryz.func133,Tryz.ntmps133
 go_wp2
 go_loopw [3,9] (fun n i wr=>∃(k:Nat) (y:Int),k≤x.ps.length∧i= .int .i64 k∧n= .int .i64 y∧0≤y∧y≤1048576∧Hid (y=sumZ (x.ps.take k))∧Hid (Wd w wr x)) (fun _ i _=>x.ps.length-(intOf i).toNat)
 case atStart=>exact⟨0,0,by omega,rfl,rfl,by omega,by omega,zh (by simp[sumZ]),W0⟩
 case round=>
  clear W0
  obtain⟨k,y,hk,rfl,rfl,y0,y1,HY,HW⟩:=hrel
  by_cases t:k<x.ps.length
  ·have kt:(k:Int)<x.ps.length:=by omega
   have NX:=sumZ_next t
   have LE:=sumZ_le x.ps (k+1)
   have YE:=zu HY
   obtain⟨g,ea,lg,e0,e1,e2⟩:=cells_of (zu HW).r t
   have lt:=(zu HW).lt
   have IX:=SCom14.ixF x.c ea t
   generalize (elF x.ps k).1=z0 at *
   generalize (elF x.ps k).2.1=z1 at *
   generalize (elF x.ps k).2.2=z2 at *
   have b1:z1.size+z2.size≤1048576:=by omega
   have a2:wrap64 (y+((z1.size:Int)+z2.size))=y+((z1.size:Int)+z2.size):=by rw[wrap64];omega
   have NY:=zh (show 0≤y+((z1.size:Int)+z2.size)∧y+((z1.size:Int)+z2.size)≤1048576∧y+((z1.size:Int)+z2.size)=sumZ (x.ps.take (k+1)) by omega)
   clear NX LE YE HY ea
   have OB:=zh (one_more wr (.cells #[.int .i64 z0,.string z1,.string z2] 120))
   go_wp2_with fail
   refine(iSizeF _ z0 z1 z2 b1).mono ?_
   rintro e w2 ⟨rfl,bb⟩
   have HW2:=zh (((zu HW).step (zu OB)).step bb)
   clear bb OB HW e0 e1 e2 IX
   go_wp2
   go_roundw
   case rel=>exact⟨k+1,y+((z1.size:Int)+z2.size),by omega,by go_num,rfl,(zu NY).1,(zu NY).2.1,zh (zu NY).2.2,HW2⟩
   case measure=>simp[intOf];omega
  ·have e:k=x.ps.length:=by omega
   have E:=zh (show y=sumZ x.ps by have:=zu HY;rw[e,List.take_length] at this;exact this)
   have kt:¬(k:Int)<x.ps.length:=by omega
   clear HY
   subst e
   go_wp2
   go_ret
   exact⟨congrArg (fun z=>Ending.returned (.int .i64 z)) (zu E),(zu HW).b⟩
end ISz14
namespace IAppend14
open Fil14 OpensF14 DiskH14 DkH14 SDk14 SOk14 SRd14 App14 SLess14 SCopy14 SRef14 SCom14 SPut14 SAppend14 TabF14 PTab14 IFile14 ITb14 ICp14 IDk14 ICom14 ISz14
abbrev oM0:Oper:={dst:=some 19,op:=Go.Op.move (Go.Operand.tmp 2),type:=9,pos:= "l14_disk.go:54",after:= #[],guard:=none}
abbrev oM1:Oper:={dst:=some 20,op:=Go.Op.call {callee:=Go.Callee.builtin Go.Builtin.len,args:= #[Go.Operand.tmp 19],argTypes:= #[9]},type:=3,pos:= "l14_disk.go:54",after:= #[{on:=0,ground:=Go.Ground.data}],guard:=none}
abbrev oM2:Oper:={dst:=some 21,op:=Go.Op.fieldAddr 52 (Go.Operand.tmp 3) 0,type:=0,pos:= "l14_disk.go:54",after:= #[],guard:=none}
abbrev oM3:Oper:={dst:=some 22,op:=Go.Op.load 3 (Go.Operand.tmp 21),type:=3,pos:= "l14_disk.go:54",after:= #[{on:=2,ground:=Go.Ground.data}],guard:=none}
abbrev oM4:Oper:={dst:=some 23,op:=Go.Op.load 52 (Go.Operand.tmp 3),type:=52,pos:= "l14_disk.go:54",after:= #[],guard:=none}
abbrev oM5:Oper:={dst:=some 24,op:=Go.Op.call {callee:=Go.Callee.value (Go.Operand.func 133),args:= #[Go.Operand.tmp 23],argTypes:= #[52]},type:=3,pos:= "l14_disk.go:54",after:= #[{on:=4,ground:=Go.Ground.data}],guard:=none}
abbrev oM6:Oper:={dst:=some 25,op:=Go.Op.binOp Go.BinOp.sub 3 (Go.Operand.tmp 22) (Go.Operand.tmp 24) 3,type:=3,pos:= "l14_disk.go:54",after:= #[{on:=3,ground:=Go.Ground.data},{on:=5,ground:=Go.Ground.data}],guard:=none}
abbrev oM7:Oper:={dst:=some 26,op:=Go.Op.binOp Go.BinOp.gtr 3 (Go.Operand.tmp 20) (Go.Operand.tmp 25) 3,type:=4,pos:= "l14_disk.go:54",after:= #[{on:=1,ground:=Go.Ground.data},{on:=6,ground:=Go.Ground.data}],guard:=none}
theorem iDiskAppend(w:World)(x:Dx)(nm:Int)(s:ByteArray)(hr:RdD w x)(hz:sumZ x.ps≤1048576)(hs:s.size≤9223372036854775807):Calls Tryz.prog 117 #[.agg #[.int .i64 x.room,.slice x.a x.ps.length x.c],.int .i64 nm,.string s] w (ToldD (appendD x.room x.ps nm s) w):=by
 have G0:=zh (begunD hr)
 have s2:((w.alloc (.cells #[.int .i64 x.room,.slice x.a x.ps.length x.c] 52)).alloc (.cells #[.int .i64 0,.slice none 0 0] 52)).heap.size=w.heap.size+2:=by simp
 have OK0:=zh (fun b h=>iOkB _ x b (zu G0).1.r hz h)
 have N_nm:=zh (fun u b h=>iNameB u nm b h)
 have XA:=zh (fun g e=>(hr.r g e).1)
 have h20:=hr.n
 clear hr
 by_cases ok:OkD x.room x.ps
 case neg=>
  have E:=zh (show appendD x.room x.ps nm s=((0,[]),1) by unfold appendD;rw[if_neg (fun h=>ok h.1)])
  generalize appendD x.room x.ps nm s=rr at *
  have OKD:=zh (decide_eq_false ok)
  clear ok
  go_enter Tryz.func117,Tryz.ntmps117
  go_wp2_with fail
  refine((zu OK0) false (zu OKD)).mono ?_
  rintro e u ⟨rfl,b1⟩
  have R2:=zh ((zu G0).2.below b1 (by omega))
  have WU:=zh ((zu G0).1.step b1)
  have us:=b1.size
  rw[s2] at us
  clear b1 G0 OK0 s2
  have c0:=(zu WU).c0
  have c1:=(zu WU).c1
  have lt:=(zu WU).lt
  have EN:=zh (endedD (y:=⟨0,none,0,[]⟩) (base0:=w.heap.size+2) (zu WU).b (zu R2) ⟨rfl,.inl ⟨rfl,rfl⟩⟩ (by omega))
  have f0:=(zu R2).free 0
  have f1:=(zu R2).free 1
  have r0:=(zu R2).c0
  have r1:=(zu R2).c1
  clear c0 c1 lt
  go_wp2
  refine bodyPost_ret (v:= .tuple #[.agg #[.int .i64 0,.slice none 0 0],.int .i64 1]) (by simp[results,Tryz.results117,go_sem,r0,r1]) rfl ?_
  rw[zu E]
  exact⟨⟨0,none,0,[]⟩,rfl,rfl,(zu EN).1,(zu EN).2⟩
 have OKD:=zh (decide_eq_true ok)
 have OK:=zh ok
 by_cases nk:okN nm=true
 case neg=>
  have E:=zh (show appendD x.room x.ps nm s=((0,[]),1) by unfold appendD;rw[if_neg (fun h=>nk h.2)])
  generalize appendD x.room x.ps nm s=rr at *
  have NK:=zh (show okN nm=false by simpa using nk)
  clear ok nk
  go_enter Tryz.func117,Tryz.ntmps117
  go_wp2_with fail
  refine((zu OK0) true (zu OKD)).mono ?_
  rintro e u ⟨rfl,b1⟩
  have R2:=zh ((zu G0).2.below b1 (by omega))
  have WU:=zh ((zu G0).1.step b1)
  have us:=b1.size
  rw[s2] at us
  clear b1 G0 OK0 s2
  have c0:=(zu WU).c0
  have c1:=(zu WU).c1
  have lt:=(zu WU).lt
  go_wp2_with fail
  refine((zu N_nm) _ false (zu NK)).mono ?_
  rintro e u ⟨rfl,rfl⟩
  have EN:=zh (endedD (y:=⟨0,none,0,[]⟩) (base0:=w.heap.size+2) (zu WU).b (zu R2) ⟨rfl,.inl ⟨rfl,rfl⟩⟩ (by omega))
  have f0:=(zu R2).free 0
  have f1:=(zu R2).free 1
  have r0:=(zu R2).c0
  have r1:=(zu R2).c1
  clear c0 c1 lt
  go_wp2
  refine bodyPost_ret (v:= .tuple #[.agg #[.int .i64 0,.slice none 0 0],.int .i64 1]) (by simp[results,Tryz.results117,go_sem,r0,r1]) rfl ?_
  rw[zu E]
  exact⟨⟨0,none,0,[]⟩,rfl,rfl,(zu EN).1,(zu EN).2⟩
 have NK:=zh nk
 have WF:=zh (wf_ok nk)
 have TL:=zh (tl_ok ok)
 have RE:=zh (show appendD x.room x.ps nm s=if x.room-sumZ x.ps<s.size then((x.room,x.ps),3) else((x.room,putF x.ps (appF x.ps nm s)),0) by unfold appendD;rw[if_pos ⟨ok,nk⟩])
 generalize appendD x.room x.ps nm s=rr at *
 have z60:=ok.1
 have zr:=ok.2.2.1
 obtain⟨p,HP,EA,SP⟩:∃p:TF,(tabOf x.ps nm).getD z0=p∧appF x.ps nm s=(nm,p.2.1,p.2.2++s)∧p.2.1.size+p.2.2.size≤1048576:=by
  unfold appF
  by_cases q:findF x.ps nm<0
  ·have FN:=tl_no (zu TL) q
   refine⟨z0,by rw[FN];rfl,?_,by simp⟩
   rw[if_neg (by omega)]
   show(nm,ByteArray.empty,s)=(nm,ByteArray.empty,ByteArray.empty++s)
   rw[ByteArray.empty_append]
  ·obtain⟨k,ek,kl,en⟩:=findF_in (ps:=x.ps) (nm:=nm) (by omega)
   have FY:=tl_yes (zu TL) kl en
   refine⟨elF x.ps k,by rw[FY];rfl,?_,el_size hz kl⟩
   rw[if_pos (by omega),ek,Int.toNat_natCast,en]
 have ROW:=zh (tl_row (tl_put (zu TL) (appF x.ps nm s) (by rw[EA];exact Pure14.ok_named.1 nk)))
 rw[EA] at ROW RE
 obtain⟨p0,p1,p2⟩:=p
 have HP:=zh HP
 simp only at ROW RE SP
 obtain⟨b,hb⟩:∃b,decide ((s.size:Int)>x.room-sumZ x.ps)=b:=⟨_,rfl⟩
 have HB:=zh hb
 have wr:wrap64 (x.room-sumZ x.ps)=x.room-sumZ x.ps:=by rw[wrap64];omega
 have wr2:IntKind.i64.wrap (x.room-sumZ x.ps)=x.room-sumZ x.ps:=by rw[IntKind.wrap_i64];omega
 clear EA TL ok nk
 go_enter Tryz.func117,Tryz.ntmps117
 go_wp2_with fail
 refine((zu OK0) true (zu OKD)).mono ?_
 rintro e u ⟨rfl,b1⟩
 have R2:=zh ((zu G0).2.below b1 (by omega))
 have WU:=zh ((zu G0).1.step b1)
 have us:=b1.size
 rw[s2] at us
 clear b1 G0 OK0 s2
 have c0:=(zu WU).c0
 have c1:=(zu WU).c1
 have lt:=(zu WU).lt
 go_wp2_with fail
 refine((zu N_nm) _ true (zu NK)).mono ?_
 rintro e u ⟨rfl,rfl⟩
 have K0:u.cell? ⟨w.heap.size,0,none⟩=some (.int .i64 x.room)∧u.cell? ⟨w.heap.size,1,none⟩=some (.slice x.a x.ps.length x.c):=⟨c0,c1⟩
 go_wp2_with fail
 refine wp_region_held_drew (S:=(fun w'=>w'.cell? ⟨w.heap.size,0,none⟩=some (.int .i64 x.room)∧w'.cell? ⟨w.heap.size,1,none⟩=some (.slice x.a x.ps.length x.c))) (by kernel_rfl) K0 (fun hHeld=>?_)
 refine tk 0 oM0 (.string s) rfl (by kernel_rfl) (fun _ _ _ h=>h) (by rfl) (fun w hSw=>?_) hHeld ?_
 ·(try dsimp only at hSw)
  unfold oM0
  go_simp
 try simp only[oM0,Act.put,zA,zB,zC]
 refine tk 1 oM1 (.int .i64 s.size) rfl (by kernel_rfl) (fun _ _ _ h=>h) (by rfl) (fun w hSw=>?_) hHeld ?_
 ·(try dsimp only at hSw)
  unfold oM1
  go_simp
 try simp only[oM1,Act.put,zA,zB,zC]
 refine tk 2 oM2 (.pointer (some ⟨w.heap.size,0,none⟩)) rfl (by kernel_rfl) (fun _ _ _ h=>h) (by rfl) (fun w hSw=>?_) hHeld ?_
 ·(try dsimp only at hSw)
  unfold oM2
  go_simp
 try simp only[oM2,Act.put,zA,zB,zC]
 refine tk 3 oM3 (.int .i64 x.room) rfl (by kernel_rfl) (fun _ _ _ h=>h) (by rfl) (fun w hSw=>?_) hHeld ?_
 ·(try dsimp only at hSw)
  unfold oM3
  go_simp
 try simp only[oM3,Act.put,zA,zB,zC]
 refine tk 4 oM4 (.agg #[.int .i64 x.room,.slice x.a x.ps.length x.c]) rfl (by kernel_rfl) (fun _ _ _ h=>h) (by rfl) (fun w hSw=>?_) hHeld ?_
 ·(try dsimp only at hSw)
  unfold oM4
  go_simp
 try simp only[oM4,Act.put,zA,zB,zC]
 refine wpAnyH_ready (rs:=[5]) (by kernel_rfl) (by simp) ?_
 refine AllReadyH.cons (o:=oM5) rfl (fun K hK=>?_) AllReadyH.nil
 unfold oM5
 go_simp
 go_wp2_with fail
 refine(iSizeD u.drew x (zu WU).drew.r hz).mono ?_
 rintro e v ⟨rfl,bb⟩
 have bb1:Below u.heap.size u v:=⟨bb.os,bb.tape,bb.output,bb.size,bb.block⟩
 have WV:=zh ((zu WU).step bb1)
 have RV:=zh ((zu R2).below bb1 (zu R2).lt.2)
 have K1:v.cell? ⟨w.heap.size,0,none⟩=some (.int .i64 x.room)∧v.cell? ⟨w.heap.size,1,none⟩=some (.slice x.a x.ps.length x.c):=⟨(zu WV).c0,(zu WV).c1⟩
 have vs:=bb1.size
 clear bb bb1
 go_wp2_with fail
 refine hK.out _ _ K1 (fun hHeld=>?_)
 clear hK K
 try simp only[oM5,Act.put,zA,zB,zC]
 refine tk 6 oM6 (.int .i64 (x.room-sumZ x.ps)) rfl (by kernel_rfl) (fun _ _ _ h=>h) (by rfl) (fun w hSw=>?_) hHeld ?_
 ·(try dsimp only at hSw)
  unfold oM6
  go_simp
 try simp only[oM6,Act.put,zA,zB,zC]
 refine tk 7 oM7 (.bool b) rfl (by kernel_rfl) (fun _ _ _ h=>h) (by rfl) (fun w hSw=>?_) hHeld ?_
 ·(try dsimp only at hSw)
  unfold oM7
  go_simp
 try simp only[oM7,Act.put,zA,zB,zC]
 refine wpAnyH_done (by kernel_rfl) ?_ _
 clear K0 K1 c0 c1 lt WU R2 wr wr2
 cases b with
 |true=>
  have E:=zh (show rr=((x.room,x.ps),3) by rw[zu RE,if_pos (by have:=zu HB;simpa using this)])
  have c0:=(zu WV).c0
  have c1:=(zu WV).c1
  have lt:=(zu WV).lt
  clear hb HB RE ROW HP
  go_wp2_with fail
  refine(iCopied _ x (zu WV).r).mono ?_
  rintro e u9 ⟨y,hy0,hy,rfl,oy,b9⟩
  have R9:=zh ((zu RV).below b9 (zu RV).lt.2)
  have HY:=zh (show(y.room,y.ps)=(x.room,x.ps) by rw[hy0,hy])
  have sz9:=(zu RV).lt.2
  have EN:=zh (endedD ((zu WV).b.trans (b9.mono (zu WV).b.size)) (zu R9) oy (by omega))
  have f0:=(zu R9).free 0
  have f1:=(zu R9).free 1
  have r0:=(zu R9).c0
  have r1:=(zu R9).c1
  clear b9 oy hy0 hy c0 c1 lt
  go_wp2
  refine bodyPost_ret (v:= .tuple #[.agg #[.int .i64 y.room,.slice y.a y.ps.length y.c],.int .i64 3]) (by simp[results,Tryz.results117,go_sem,r0,r1]) rfl ?_
  rw[zu E]
  exact⟨y,zu HY,rfl,(zu EN).1,(zu EN).2⟩
 |false=>
  have E:=zh (show rr=((x.room,putF x.ps (nm,p1,p2++s)),0) by rw[zu RE,if_neg (by have:=zu HB;simpa using this)])
  have sr:(s.size:Int)≤x.room-sumZ x.ps:=by have:=zu HB;simpa using this
  have c0:=(zu WV).c0
  have c1:=(zu WV).c1
  have lt:=(zu WV).lt
  clear hb HB RE
  go_wp2_with fail
  refine(iTable _ x (zu WV).r (wf_names (zu OK))).mono ?_
  rintro e u1 ⟨rfl,tt,b2⟩
  have S1:=zh (show St w u1 x (v.heap.size+1) x.ps.length (tabOf x.ps) from⟨(zu WV).step b2,(zu RV).below b2 (zu RV).lt.2,tt,by omega,zu XA⟩)
  have us1:=b2.size
  clear tt b2 WV RV c0 c1 lt
  have S2:=zh ((zu S1).step (one_more u1 (.cells #[.int .i64 p0,.string p1,.string p2] 120)))
  have sc:p2.size+s.size≤9223372036854775807:=by omega
  have c0:=(zu S2).d.c0
  have c1:=(zu S2).d.c1
  have lt:=(zu S2).d.lt
  go_wp2_with (first|(at_lookup;refine wp_look _ rfl _ _ rfl (v.heap.size+1) _ _ rfl (zu S1).t nm rfl (zu WF) _ (zu HP) ?_)|(at_mapUpdate;refine wp_put _ rfl _ _ _ rfl (v.heap.size+1) _ _ rfl (zu S2).t h20 nm (nm,p1,p2++s) rfl rfl (zu WF) ?_;intro u4 t4 g4;have S4:=zh ((zu S2).turn t4 g4);clear t4 g4 c0 c1 lt;have c0:=(zu S4).d.c0;have c1:=(zu S4).d.c1;have lt:=(zu S4).d.lt)|fail)
  refine(iDisk _ (v.heap.size+1) _ _ x.room (zu S4).t).mono ?_
  rintro e u9 ⟨y,hy0,hy,rfl,oy,b9⟩
  have R9:=zh ((zu S4).r.below b9 (zu S4).r.lt.2)
  have HY:=zh (show(y.room,y.ps)=(x.room,putF x.ps (nm,p1,p2++s)) by rw[hy0,hy,zu ROW])
  have sz9:=(zu S4).r.lt.2
  have EN:=zh (endedD ((zu S4).d.b.trans (b9.mono (zu S4).d.b.size)) (zu R9) oy (by omega))
  have f0:=(zu R9).free 0
  have f1:=(zu R9).free 1
  have r0:=(zu R9).c0
  have r1:=(zu R9).c1
  clear b9 oy hy0 hy c0 c1 lt
  go_wp2
  refine bodyPost_ret (v:= .tuple #[.agg #[.int .i64 y.room,.slice y.a y.ps.length y.c],.int .i64 0]) (by simp[results,Tryz.results117,go_sem,r0,r1]) rfl ?_
  rw[zu E]
  exact⟨y,zu HY,rfl,(zu EN).1,(zu EN).2⟩
end IAppend14
end Go.Proofs.YtagmnociflkhcaaGreat
