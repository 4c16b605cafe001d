/- Texts of one proof, one behind the other: SPut14, SAppend14. -/
import Derived.Test.YtagmnociflkhcaaGreatRows
import Derived.Test.YtagmnociflkhcaaGreatQW0
import Derived.Test.YtagmnociflkhcaaGreatQW28
import Derived.Deep.RegionHeld3
set_option linter.unusedVariables false
set_option linter.unusedSimpArgs false
open Go.ChangeShapes Go.WideShapes Go.ChangeAt Go.RowKit
set_option maxRecDepth 100000
set_option maxHeartbeats 32000000
namespace Go.Proofs.YtagmnociflkhcaaGreat
namespace SPut14
open Fil14 OpensF14 DiskH14 DkH14 SDk14 SOk14 SRd14 App14 SLess14 SCopy14
open DkH14 (row_step)
def putN(ps:List TF)(f:TF):Nat→List TF×Bool
 |0=>([],false)
 |k+1=>
  let l:=if(putN ps f k).2=false∧f.1≤(elF ps k).1 then(putN ps f k).1++[f] else(putN ps f k).1
  (if(elF ps k).1=f.1 then l else l++[elF ps k],(putN ps f k).2||decide (f.1≤(elF ps k).1))
def putF(ps:List TF)(f:TF):List TF:=if(putN ps f ps.length).2=true then(putN ps f ps.length).1 else(putN ps f ps.length).1++[f]
structure Pt(B O:Nat)(W wr:World)(room:Int)(L:List TF)(a:Option Addr)(m c:Nat):Prop where
 gr:W.grownBy wr (some O)
 bx:Bc wr B O (.int .i64 room) (.slice a m c)
 ow:wr.ownsRow W.heap.size 120 3 (.slice a m c) m (flatF L)
theorem Pt.drew{B O:Nat}{W wr:World}{room:Int}{L:List TF}{a:Option Addr}{m c:Nat}(h:Pt B O W wr room L a m c):Pt B O W wr.drew room L a m c:=⟨⟨h.gr.os,h.gr.tape,h.gr.output,h.gr.size,h.gr.block⟩,h.bx,h.ow⟩
theorem Pt.off{B O:Nat}{W wr:World}{room:Int}{L:List TF}{a:Option Addr}{m c:Nat}(h:Pt B O W wr room L a m c):∀j,(Value.slice a m c).ownBlock=some j→W.heap.size≤j:=fun j hj=>(World.ownsRow.lt h.ow j hj).1
theorem Pt.app{B O:Nat}{W wr V u:World}{room:Int}{L:List TF}{a:Option Addr}{m c g9 c9:Nat}{p:TF}(h:Pt B O W wr room L a m c)(hO:O<W.heap.size)(b:Below wr.heap.size wr V)(g:V.grownBy u (Value.slice a m c).ownBlock)
  (o:u.ownsRow W.heap.size 120 3 (.slice (some ⟨g9,0,none⟩) (m+1) c9) (m+1) (flatF L++[.int .i64 p.1,.string p.2.1,.string p.2.2])):
  Bc u B O (.int .i64 room) (.slice a m c)∧Pt B O W (u.setCell ⟨O,1,none⟩ (.slice (some ⟨g9,0,none⟩) (m+1) c9)) room (L++[p]) (some ⟨g9,0,none⟩) (m+1) c9:=by
 have NG:some O≠(Value.slice a m c).ownBlock:=fun e=>by have:=h.off _ e.symm;omega
 have bx9:=(h.bx.below b (h.bx.lt).2).kept g NG
 have gu:W.grownBy u (some O):=⟨(g.os.trans b.os).trans h.gr.os,(g.tape.trans b.tape).trans h.gr.tape,(g.output.trans b.output).trans h.gr.output,Nat.le_trans h.gr.size (Nat.le_trans b.size g.size),fun i hi hr=>by
  have l:i<wr.heap.size:=Nat.lt_of_lt_of_le hi h.gr.size
  exact((g.block i (Nat.lt_of_lt_of_le l b.size) (fun e=>by have:=h.off i e.symm;omega)).trans (b.block i l)).trans (h.gr.block i hi hr)⟩
 have s:=bc_set1 bx9 (.slice (some ⟨g9,0,none⟩) (m+1) c9)
 refine⟨bx9,grow_grow gu s.2,s.1,?_⟩
 rw[flat_1]
 exact row_kept o s.2 hO
theorem wp_app(u:World){ops:Array Oper}{rest:List Oper}{o:Oper}{a:Act}{Q:Exit→Act→World→Prop}(hgd:o.guard=none)(s x:Operand)
  (ho:o.op= .call {callee:= .builtin .append,args:= #[s,x],argTypes:= #[50,50]})(base:Nat)(v:Value)(n:Nat)(xs:List Value)(vb:Nat)(news:List Value)(hs:a.eval s=v)(hx:a.eval x= .slice (some ⟨vb,0,none⟩) 1 1)(hown:u.ownsRow base 120 3 v n xs)(hl:news.length=3)(hc:∀j w,news[j]?=some w→u.cell? ⟨vb,j,none⟩=some w)(h1:∀w∈news,w.oneCell'=true)(hn:n≤1048576)(hb:base≤u.heap.size)
  (h:∀g' c' w',w'.ownsRow base 120 3 (.slice (some ⟨g',0,none⟩) (n+1) c') (n+1) (xs++news)→u.grownBy w' v.ownBlock→wpList Tryz.prog ops Q rest (a.put o.dst (.slice (some ⟨g',0,none⟩) (n+1) c')) w'):wpList Tryz.prog ops Q (o::rest) a u:=by
 obtain⟨i0,hi,hz0,hz1,hz2⟩:=info_parts HelpF14.info2
 refine wpList_append_own_at u hgd s x 50 ho base 120 i0 (.agg #[.int .i64 0,.string ByteArray.empty,.string ByteArray.empty]) 3 40 Tryz.underlying50 hi hz0 hz1 hz2 rfl (by decide) v n xs hs hown ⟨vb,0,none⟩ 1 1 news hx (by omega) (fun j w hj=>by rw[Addr.add_lit,Nat.zero_add];exact hc j w hj) h1 (by unfold maxLen;omega) (by omega) hb ?_
 intro v' w' own' gr' nil' loc'
 rcases own'.2 with⟨e1,_⟩|⟨g',c',cur,rfl,_⟩
 ·rw[e1] at nil';simp at nil'
 ·exact h g' c' w' own' gr'
abbrev oS0:Oper:={dst:=some 18,op:=Go.Op.move (Go.Operand.tmp 6),type:=4,pos:= "l14_disk.go:49",after:= #[],guard:=none}
abbrev oS1:Oper:={dst:=some 19,op:=Go.Op.unOp Go.UnOp.not 4 (Go.Operand.tmp 18),type:=4,pos:= "l14_disk.go:49",after:= #[{on:=0,ground:=Go.Ground.data}],guard:=none}
abbrev oS2:Oper:={dst:=some 20,op:=Go.Op.move (Go.Operand.tmp 19),type:=4,pos:= "l14_disk.go:49",after:= #[{on:=1,ground:=Go.Ground.data}],guard:=none}
abbrev oS3:Oper:={dst:=some 21,op:=Go.Op.fieldAddr 52 (Go.Operand.tmp 2) 1,type:=0,pos:= "l14_disk.go:49",after:= #[{on:=2,ground:=Go.Ground.guard}],guard:=some (2,true)}
abbrev oS4:Oper:={dst:=some 22,op:=Go.Op.load 50 (Go.Operand.tmp 21),type:=50,pos:= "l14_disk.go:49",after:= #[{on:=3,ground:=Go.Ground.data},{on:=2,ground:=Go.Ground.guard}],guard:=some (2,true)}
abbrev oS5:Oper:={dst:=some 23,op:=Go.Op.move (Go.Operand.tmp 7),type:=3,pos:= "l14_disk.go:49",after:= #[{on:=2,ground:=Go.Ground.guard}],guard:=some (2,true)}
abbrev oS6:Oper:={dst:=some 24,op:=Go.Op.indexAddr 50 (Go.Operand.tmp 22) (Go.Operand.tmp 23),type:=0,pos:= "l14_disk.go:49",after:= #[{on:=4,ground:=Go.Ground.data},{on:=5,ground:=Go.Ground.data},{on:=2,ground:=Go.Ground.guard}],guard:=some (2,true)}
abbrev oS7:Oper:={dst:=some 25,op:=Go.Op.fieldAddr 120 (Go.Operand.tmp 24) 0,type:=0,pos:= "l14_disk.go:49",after:= #[{on:=6,ground:=Go.Ground.data},{on:=2,ground:=Go.Ground.guard}],guard:=some (2,true)}
abbrev oS8:Oper:={dst:=some 26,op:=Go.Op.load 3 (Go.Operand.tmp 25),type:=3,pos:= "l14_disk.go:49",after:= #[{on:=7,ground:=Go.Ground.data},{on:=2,ground:=Go.Ground.guard}],guard:=some (2,true)}
abbrev oS9:Oper:={dst:=some 27,op:=Go.Op.fieldAddr 120 (Go.Operand.tmp 3) 0,type:=0,pos:= "l14_disk.go:49",after:= #[{on:=2,ground:=Go.Ground.guard}],guard:=some (2,true)}
abbrev oS10:Oper:={dst:=some 28,op:=Go.Op.load 3 (Go.Operand.tmp 27),type:=3,pos:= "l14_disk.go:49",after:= #[{on:=9,ground:=Go.Ground.data},{on:=2,ground:=Go.Ground.guard}],guard:=some (2,true)}
abbrev oS11:Oper:={dst:=some 29,op:=Go.Op.binOp Go.BinOp.geq 3 (Go.Operand.tmp 26) (Go.Operand.tmp 28) 3,type:=4,pos:= "l14_disk.go:49",after:= #[{on:=8,ground:=Go.Ground.data},{on:=10,ground:=Go.Ground.data},{on:=2,ground:=Go.Ground.guard}],guard:=some (2,true)}
abbrev oS12:Oper:={dst:=some 30,op:=Go.Op.pick (Go.Operand.tmp 20) (Go.Operand.tmp 29) (Go.Operand.const (Go.Value.bool false)),type:=4,pos:= "l14_disk.go:49",after:= #[{on:=2,ground:=Go.Ground.data},{on:=11,ground:=Go.Ground.data}],guard:=none}
abbrev oN0:Oper:={dst:=some 37,op:=Go.Op.fieldAddr 52 (Go.Operand.tmp 2) 1,type:=0,pos:= "l14_disk.go:53",after:= #[],guard:=none}
abbrev oN1:Oper:={dst:=some 38,op:=Go.Op.load 50 (Go.Operand.tmp 37),type:=50,pos:= "l14_disk.go:53",after:= #[{on:=0,ground:=Go.Ground.data}],guard:=none}
abbrev oN2:Oper:={dst:=some 39,op:=Go.Op.move (Go.Operand.tmp 7),type:=3,pos:= "l14_disk.go:53",after:= #[],guard:=none}
abbrev oN3:Oper:={dst:=some 40,op:=Go.Op.indexAddr 50 (Go.Operand.tmp 38) (Go.Operand.tmp 39),type:=0,pos:= "l14_disk.go:53",after:= #[{on:=1,ground:=Go.Ground.data},{on:=2,ground:=Go.Ground.data}],guard:=none}
abbrev oN4:Oper:={dst:=some 41,op:=Go.Op.fieldAddr 120 (Go.Operand.tmp 40) 0,type:=0,pos:= "l14_disk.go:53",after:= #[{on:=3,ground:=Go.Ground.data}],guard:=none}
abbrev oN5:Oper:={dst:=some 42,op:=Go.Op.load 3 (Go.Operand.tmp 41),type:=3,pos:= "l14_disk.go:53",after:= #[{on:=4,ground:=Go.Ground.data}],guard:=none}
abbrev oN6:Oper:={dst:=some 43,op:=Go.Op.fieldAddr 120 (Go.Operand.tmp 3) 0,type:=0,pos:= "l14_disk.go:53",after:= #[],guard:=none}
abbrev oN7:Oper:={dst:=some 44,op:=Go.Op.load 3 (Go.Operand.tmp 43),type:=3,pos:= "l14_disk.go:53",after:= #[{on:=6,ground:=Go.Ground.data}],guard:=none}
abbrev oN8:Oper:={dst:=some 45,op:=Go.Op.binOp Go.BinOp.neq 3 (Go.Operand.tmp 42) (Go.Operand.tmp 44) 3,type:=4,pos:= "l14_disk.go:53",after:= #[{on:=5,ground:=Go.Ground.data},{on:=7,ground:=Go.Ground.data}],guard:=none}
abbrev oT0:Oper:={dst:=some 46,op:=Go.Op.fieldAddr 52 (Go.Operand.tmp 5) 1,type:=0,pos:= "l14_disk.go:54",after:= #[],guard:=none}
abbrev oT1:Oper:={dst:=some 47,op:=Go.Op.load 50 (Go.Operand.tmp 46),type:=50,pos:= "l14_disk.go:54",after:= #[{on:=0,ground:=Go.Ground.data}],guard:=none}
abbrev oT2:Oper:={dst:=some 48,op:=Go.Op.fieldAddr 52 (Go.Operand.tmp 2) 1,type:=0,pos:= "l14_disk.go:54",after:= #[],guard:=none}
abbrev oT3:Oper:={dst:=some 49,op:=Go.Op.load 50 (Go.Operand.tmp 48),type:=50,pos:= "l14_disk.go:54",after:= #[{on:=2,ground:=Go.Ground.data}],guard:=none}
abbrev oT4:Oper:={dst:=some 50,op:=Go.Op.move (Go.Operand.tmp 7),type:=3,pos:= "l14_disk.go:54",after:= #[],guard:=none}
abbrev oT5:Oper:={dst:=some 51,op:=Go.Op.indexAddr 50 (Go.Operand.tmp 49) (Go.Operand.tmp 50),type:=0,pos:= "l14_disk.go:54",after:= #[{on:=3,ground:=Go.Ground.data},{on:=4,ground:=Go.Ground.data}],guard:=none}
abbrev oT6:Oper:={dst:=some 52,op:=Go.Op.load 120 (Go.Operand.tmp 51),type:=120,pos:= "l14_disk.go:54",after:= #[{on:=5,ground:=Go.Ground.data}],guard:=none}
abbrev oT7:Oper:={dst:=some 53,op:=Go.Op.buildSlice 50 1 #[(0,Go.Operand.tmp 52)],type:=50,pos:= "l14_disk.go:54",after:= #[{on:=6,ground:=Go.Ground.data}],guard:=none}
abbrev oT8:Oper:={dst:=some 54,op:=Go.Op.call {callee:=Go.Callee.builtin Go.Builtin.append,args:= #[Go.Operand.tmp 47,Go.Operand.tmp 53],argTypes:= #[50,50]},type:=50,pos:= "l14_disk.go:54",after:= #[{on:=1,ground:=Go.Ground.data},{on:=7,ground:=Go.Ground.data}],guard:=none}
abbrev oT9:Oper:={dst:=some 55,op:=Go.Op.fieldAddr 52 (Go.Operand.tmp 5) 1,type:=0,pos:= "l14_disk.go:54",after:= #[{on:=0,ground:=Go.Ground.phase},{on:=1,ground:=Go.Ground.phase},{on:=2,ground:=Go.Ground.phase},{on:=3,ground:=Go.Ground.phase},{on:=4,ground:=Go.Ground.phase},{on:=5,ground:=Go.Ground.phase},{on:=6,ground:=Go.Ground.phase},{on:=7,ground:=Go.Ground.phase},{on:=8,ground:=Go.Ground.phase}],guard:=none}
abbrev oT10:Oper:={dst:=none,op:=Go.Op.store 50 (Go.Operand.tmp 55) (Go.Operand.tmp 54),type:=0,pos:= "l14_disk.go:54",after:= #[{on:=9,ground:=Go.Ground.data},{on:=8,ground:=Go.Ground.data},{on:=8,ground:=Go.Ground.chain},{on:=0,ground:=Go.Ground.phase},{on:=1,ground:=Go.Ground.phase},{on:=2,ground:=Go.Ground.phase},{on:=3,ground:=Go.Ground.phase},{on:=4,ground:=Go.Ground.phase},{on:=5,ground:=Go.Ground.phase},{on:=6,ground:=Go.Ground.phase},{on:=7,ground:=Go.Ground.phase},{on:=8,ground:=Go.Ground.phase}],guard:=none}
theorem putN_succ{ps:List TF}{f:TF}{k:Nat}{L:List TF}{pb:Bool}(h:putN ps f k=(L,pb)):putN ps f (k+1)=(if(elF ps k).1=f.1 then(if pb=false∧f.1≤(elF ps k).1 then L++[f] else L) else(if pb=false∧f.1≤(elF ps k).1 then L++[f] else L)++[elF ps k],pb||decide (f.1≤(elF ps k).1)):=by
 simp only[putN,h]
theorem sPut(w:World)(x:Dx)(f0:Int)(f1 f2:ByteArray)(hr:RdD w x)(h22:x.ps.length≤22):
  Calls Tryz.prog 77 #[.agg #[.int .i64 x.room,.slice x.a x.ps.length x.c],.agg #[.int .i64 f0,.string f1,.string f2]] w fun e w'=>∃y:Dx,y.room=x.room∧y.ps=putF x.ps (f0,f1,f2)∧e= .returned (.agg #[.int .i64 y.room,.slice y.a y.ps.length y.c])∧OwD w' w.heap.size y∧Below w.heap.size w w':=by
 have F:∀W1,W1=w.alloc (.cells #[.int .i64 x.room,.slice x.a x.ps.length x.c] 52)→∀W2,W2=W1.alloc (.cells #[.int .i64 f0,.string f1,.string f2] 120)→∀W3,W3=W2.alloc (.cells #[.int .i64 0,.slice none 0 0] 52)→∀W4,W4=W3.alloc (.cells #[.int .i64 x.room,.slice none 0 0] 52)→
   Wd w W4 x∧(W4.cell? ⟨w.heap.size+1,0,none⟩=some (.int .i64 f0)∧W4.cell? ⟨w.heap.size+1,1,none⟩=some (.string f1)∧W4.cell? ⟨w.heap.size+1,2,none⟩=some (.string f2))∧Bc W4 w.heap.size (w.heap.size+1+1) (.int .i64 0) (.slice none 0 0)∧Bc W4 w.heap.size (w.heap.size+1+1+1) (.int .i64 x.room) (.slice none 0 0)∧W4.heap.size=w.heap.size+4:=by
  intro W1 h1 W2 h2 W3 h3 W4 h4
  have s1:W1.heap.size=w.heap.size+1:=by rw[h1];simp
  have s2:W2.heap.size=w.heap.size+1+1:=by rw[h2];simp[s1]
  have s3:W3.heap.size=w.heap.size+1+1+1:=by rw[h3];simp[s2]
  have s4:W4.heap.size=w.heap.size+4:=by rw[h4];simp[s3]
  have d1:Wd w W1 x:=by rw[h1];exact Wd.made hr _
  have b2:Below W1.heap.size W1 W2:=by rw[h2];exact one_more _ _
  have b3:Below W2.heap.size W2 W3:=by rw[h3];exact one_more _ _
  have b4:Below W3.heap.size W3 W4:=by rw[h4];exact one_more _ _
  have b34:=b3.trans (b4.mono b3.size)
  have F0:W2.cell? ⟨w.heap.size+1,0,none⟩=some (.int .i64 f0)∧W2.cell? ⟨w.heap.size+1,1,none⟩=some (.string f1)∧W2.cell? ⟨w.heap.size+1,2,none⟩=some (.string f2):=by rw[h2,←s1];exact⟨by simp[go_sem],by simp[go_sem],by simp[go_sem]⟩
  have R1:Bc W3 w.heap.size (w.heap.size+1+1) (.int .i64 0) (.slice none 0 0):=by rw[h3];exact Bc.made _ _ (by omega) s2.symm
  have O1:Bc W4 w.heap.size (w.heap.size+1+1+1) (.int .i64 x.room) (.slice none 0 0):=by rw[h4];exact Bc.made _ _ (by omega) s3.symm
  exact⟨(d1.step b2).step b34,⟨(b34.cell (p:=⟨w.heap.size+1,0,none⟩) (by show w.heap.size+1<_;omega)).trans F0.1,(b34.cell (p:=⟨w.heap.size+1,1,none⟩) (by show w.heap.size+1<_;omega)).trans F0.2.1,(b34.cell (p:=⟨w.heap.size+1,2,none⟩) (by show w.heap.size+1<_;omega)).trans F0.2.2⟩,R1.below b4 (by omega),O1,s4⟩
 have G0:=zh (F _ rfl _ rfl _ rfl _ rfl)
 have G1:=zh (fun g e=>(hr.r g e).1)
 have PF:=zh (show putF x.ps (f0,f1,f2)=if(putN x.ps (f0,f1,f2) x.ps.length).2=true then(putN x.ps (f0,f1,f2) x.ps.length).1 else(putN x.ps (f0,f1,f2) x.ps.length).1++[(f0,f1,f2)] from rfl)
 clear F hr
 go_enter Tryz.func77,Tryz.ntmps77
 go_wp2_with fail
 generalize (((w.alloc (.cells #[.int .i64 x.room,.slice x.a x.ps.length x.c] 52)).alloc (.cells #[.int .i64 f0,.string f1,.string f2] 120)).alloc (.cells #[.int .i64 0,.slice none 0 0] 52)).alloc (.cells #[.int .i64 x.room,.slice none 0 0] 52)=W at *
 obtain⟨WD,FF,RB,OB,s3⟩:=zu G0
 have HWD:=zh WD
 have HRB:=zh RB
 have F0:=zh FF.1
 have F1:=zh FF.2.1
 have F2:=zh FF.2.2
 have hO:w.heap.size+1+1+1<W.heap.size:=by omega
 have wl0:w.heap.size<W.heap.size:=by omega
 have wl1:w.heap.size+1<W.heap.size:=by omega
 clear G0 WD RB FF
 go_loopw [6,7] (fun b i wr=>∃(k m c:Nat) (a:Option Addr) (L:List TF) (pb:Bool),b= .bool pb∧i= .int .i64 k∧k≤x.ps.length∧m≤2*k∧Hid (putN x.ps (f0,f1,f2) k=(L,pb))∧Hid (Pt w.heap.size (w.heap.size+1+1+1) W wr x.room L a m c)) (fun _ i _=>x.ps.length-(intOf i).toNat)
 case atStart=>exact⟨0,0,0,none,[],false,rfl,rfl,by omega,by omega,rfl,zh ⟨World.grownBy.refl _ _,OB,⟨rfl,.inl ⟨rfl,rfl⟩⟩⟩⟩
 case round=>
  clear OB
  obtain⟨k,m,c,a,L,pb,rfl,rfl,hk,hm,HP,HPt⟩:=hrel
  by_cases t:k<x.ps.length
  ·have kt:(k:Int)<x.ps.length:=by omega
   obtain⟨g,ea,lg,e0,e1,e2⟩:=cells_of (zu HWD).r t
   have lg0:=(zu G1) g ea
   have gn:g≠w.heap.size+1+1+1:=by omega
   have EP0:Hid (∃p,elF x.ps k=p):=⟨_,rfl⟩
   obtain⟨p,hp⟩:=zu EP0
   rw[hp] at e0 e1 e2
   obtain⟨z0,z1,z2⟩:=p
   have EP:=zh hp
   have D0:=zh e0
   have D1:=zh e1
   have D2:=zh e2
   have HC:=zh (by have h:=(zu HWD).c1;rw[ea] at h;exact h)
   clear hp e0 e1 e2 EP0 ea
   have u1c:=(kcell (zu HPt).gr 1 wl0 (by omega)).trans (zu HC)
   have u10:=(kcell (zu HPt).gr (k*3) lg gn).trans (zu D0)
   have u11:=(kcell (zu HPt).gr (k*3+1) lg gn).trans (zu D1)
   have u12:=(kcell (zu HPt).gr (k*3+2) lg gn).trans (zu D2)
   have u1f:=(kcell (zu HPt).gr 0 wl1 (by omega)).trans (zu F0)
   have u1g:=(kcell (zu HPt).gr 1 wl1 (by omega)).trans (zu F1)
   have u1h:=(kcell (zu HPt).gr 2 wl1 (by omega)).trans (zu F2)
   have u1s:=(zu HPt).gr.size
   cases pb
   ·by_cases qf:f0≤z0
    ·have PBV:True:=trivial
     have QF:f0≤z0:=qf
     have hg:z0≥f0:=qf
     by_cases qe:z0=f0
     ·have K6:wr.cell? ⟨w.heap.size,1,none⟩=some (.slice (some ⟨g,0,none⟩) x.ps.length x.c)∧wr.cell? ⟨g,k*3,none⟩=some (.int .i64 z0)∧wr.cell? ⟨w.heap.size+1,0,none⟩=some (.int .i64 f0):=⟨u1c,u10,u1f⟩
      go_wp2_with fail
      refine wp_region_held_drew (S:=(fun w'=>w'.cell? ⟨w.heap.size,1,none⟩=some (.slice (some ⟨g,0,none⟩) x.ps.length x.c)∧w'.cell? ⟨g,k*3,none⟩=some (.int .i64 z0)∧w'.cell? ⟨w.heap.size+1,0,none⟩=some (.int .i64 f0))) (by kernel_rfl) K6 (fun hHeld=>?_)
      refine tk 0 oS0 (.bool false) rfl (by kernel_rfl) (fun _ _ _ h=>h) (by rfl) (fun w hSw=>?_) hHeld ?_
      ·(try dsimp only at hSw)
       unfold oS0
       go_simp
      try simp only[oS0,Act.put,zA,zB,zC]
      refine tk 1 oS1 (.bool true) rfl (by kernel_rfl) (fun _ _ _ h=>h) (by rfl) (fun w hSw=>?_) hHeld ?_
      ·(try dsimp only at hSw)
       unfold oS1
       go_simp
      try simp only[oS1,Act.put,zA,zB,zC]
      refine tk 2 oS2 (.bool true) rfl (by kernel_rfl) (fun _ _ _ h=>h) (by rfl) (fun w hSw=>?_) hHeld ?_
      ·(try dsimp only at hSw)
       unfold oS2
       go_simp
      try simp only[oS2,Act.put,zA,zB,zC]
      refine tk 3 oS3 (.pointer (some ⟨w.heap.size,1,none⟩)) rfl (by kernel_rfl) (fun _ _ _ h=>h) (by rfl) (fun w hSw=>?_) hHeld ?_
      ·(try dsimp only at hSw)
       unfold oS3
       go_simp
      try simp only[oS3,Act.put,zA,zB,zC]
      refine tk 4 oS4 (.slice (some ⟨g,0,none⟩) x.ps.length x.c) rfl (by kernel_rfl) (fun _ _ _ h=>h) (by rfl) (fun w hSw=>?_) hHeld ?_
      ·(try dsimp only at hSw)
       unfold oS4
       go_simp
      try simp only[oS4,Act.put,zA,zB,zC]
      refine tk 5 oS5 (.int .i64 k) rfl (by kernel_rfl) (fun _ _ _ h=>h) (by rfl) (fun w hSw=>?_) hHeld ?_
      ·(try dsimp only at hSw)
       unfold oS5
       go_simp
      try simp only[oS5,Act.put,zA,zB,zC]
      refine tk 6 oS6 (.pointer (some ⟨g,k*3,none⟩)) rfl (by kernel_rfl) (fun _ _ _ h=>h) (by rfl) (fun w hSw=>?_) hHeld ?_
      ·(try dsimp only at hSw)
       unfold oS6
       go_simp
      try simp only[oS6,Act.put,zA,zB,zC]
      refine tk 7 oS7 (.pointer (some ⟨g,k*3,none⟩)) rfl (by kernel_rfl) (fun _ _ _ h=>h) (by rfl) (fun w hSw=>?_) hHeld ?_
      ·(try dsimp only at hSw)
       unfold oS7
       go_simp
      try simp only[oS7,Act.put,zA,zB,zC]
      refine tk 8 oS8 (.int .i64 z0) rfl (by kernel_rfl) (fun _ _ _ h=>h) (by rfl) (fun w hSw=>?_) hHeld ?_
      ·(try dsimp only at hSw)
       unfold oS8
       go_simp
      try simp only[oS8,Act.put,zA,zB,zC]
      refine tk 9 oS9 (.pointer (some ⟨w.heap.size+1,0,none⟩)) rfl (by kernel_rfl) (fun _ _ _ h=>h) (by rfl) (fun w hSw=>?_) hHeld ?_
      ·(try dsimp only at hSw)
       unfold oS9
       go_simp
      try simp only[oS9,Act.put,zA,zB,zC]
      refine tk 10 oS10 (.int .i64 f0) rfl (by kernel_rfl) (fun _ _ _ h=>h) (by rfl) (fun w hSw=>?_) hHeld ?_
      ·(try dsimp only at hSw)
       unfold oS10
       go_simp
      try simp only[oS10,Act.put,zA,zB,zC]
      refine tk 11 oS11 (.bool true) rfl (by kernel_rfl) (fun _ _ _ h=>h) (by rfl) (fun w hSw=>?_) hHeld ?_
      ·(try dsimp only at hSw)
       unfold oS11
       go_simp
      try simp only[oS11,Act.put,zA,zB,zC]
      refine tk 12 oS12 (.bool true) rfl (by kernel_rfl) (fun _ _ _ h=>h) (by rfl) (fun w hSw=>?_) hHeld ?_
      ·(try dsimp only at hSw)
       unfold oS12
       go_simp
      try simp only[oS12,Act.put,zA,zB,zC]
      refine wpAnyH_done (by kernel_rfl) ?_ _
      have PV:=zh (zu HPt).drew
      generalize wr.drew=v1 at *
      have u5c:=(kcell (zu PV).gr 1 wl0 (by omega)).trans (zu HC)
      have u50:=(kcell (zu PV).gr (k*3) lg gn).trans (zu D0)
      have u51:=(kcell (zu PV).gr (k*3+1) lg gn).trans (zu D1)
      have u52:=(kcell (zu PV).gr (k*3+2) lg gn).trans (zu D2)
      have u5f:=(kcell (zu PV).gr 0 wl1 (by omega)).trans (zu F0)
      have u5g:=(kcell (zu PV).gr 1 wl1 (by omega)).trans (zu F1)
      have u5h:=(kcell (zu PV).gr 2 wl1 (by omega)).trans (zu F2)
      have u5s:=(zu PV).gr.size
      have bo:=(zu PV).bx.c1
      have lo:=(zu PV).bx.lt.2
      have bob:(v1.alloc (.cells #[.int .i64 f0,.string f1,.string f2] 120)).cell? ⟨w.heap.size+1+1+1,1,none⟩=some (.slice a (m) c):=((one_more v1 (.cells #[.int .i64 f0,.string f1,.string f2] 120)).cell (p:=⟨w.heap.size+1+1+1,1,none⟩) lo).trans bo
      have vs:=(zu PV).gr.size
      go_wp2_with (first|(at_builtin;refine wp_app _ rfl _ _ rfl W.heap.size (.slice a (m) c) (m) (flatF (L)) v1.heap.size [.int .i64 f0,.string f1,.string f2] rfl rfl (row_step (zu PV).ow (one_more v1 (.cells #[.int .i64 f0,.string f1,.string f2] 120))) rfl (litm v1 _ _ _ (by rfl)) (by simp[Value.oneCell']) (by omega) (Nat.le_trans vs (by simp)) ?_)|go_in)
      intro g8 c8 u8 o8 gr8
      (try rw[←s3] at o8)
      have PA:=(zu PV).app (p:=(f0,f1,f2)) hO (one_more v1 (.cells #[.int .i64 f0,.string f1,.string f2] 120)) gr8 o8
      have bx8:=PA.1
      have b80:=bx8.c1
      have b81:=bx8.free 1
      have P8:=zh PA.2
      clear o8 gr8 PA bo bob bx8
      go_wp2_with fail
      generalize u8.setCell ⟨w.heap.size+1+1+1,1,none⟩ (.slice (some ⟨g8,0,none⟩) (m+1) c8)=v2 at *
      have NX:=zh (show putN x.ps (f0,f1,f2) (k+1)=((L++[(f0,f1,f2)]),true) from by rw[putN_succ (zu HP),zu EP];simp[PBV,qe,QF])
      have hq:(z0 !=f0)=false:=by simp[qe]
      clear qe
      have u2c:=(kcell (zu P8).gr 1 wl0 (by omega)).trans (zu HC)
      have u20:=(kcell (zu P8).gr (k*3) lg gn).trans (zu D0)
      have u21:=(kcell (zu P8).gr (k*3+1) lg gn).trans (zu D1)
      have u22:=(kcell (zu P8).gr (k*3+2) lg gn).trans (zu D2)
      have u2f:=(kcell (zu P8).gr 0 wl1 (by omega)).trans (zu F0)
      have u2g:=(kcell (zu P8).gr 1 wl1 (by omega)).trans (zu F1)
      have u2h:=(kcell (zu P8).gr 2 wl1 (by omega)).trans (zu F2)
      have u2s:=(zu P8).gr.size
      have K2:v2.cell? ⟨w.heap.size,1,none⟩=some (.slice (some ⟨g,0,none⟩) x.ps.length x.c)∧v2.cell? ⟨g,k*3,none⟩=some (.int .i64 z0)∧v2.cell? ⟨w.heap.size+1,0,none⟩=some (.int .i64 f0):=⟨u2c,u20,u2f⟩
      refine wp_region_held_drew (S:=(fun w'=>w'.cell? ⟨w.heap.size,1,none⟩=some (.slice (some ⟨g,0,none⟩) x.ps.length x.c)∧w'.cell? ⟨g,k*3,none⟩=some (.int .i64 z0)∧w'.cell? ⟨w.heap.size+1,0,none⟩=some (.int .i64 f0))) (by kernel_rfl) K2 (fun hHeld=>?_)
      refine tk 0 oN0 (.pointer (some ⟨w.heap.size,1,none⟩)) rfl (by kernel_rfl) (fun _ _ _ h=>h) (by rfl) (fun w hSw=>?_) hHeld ?_
      ·(try dsimp only at hSw)
       unfold oN0
       go_simp
      try simp only[oN0,Act.put,zA,zB,zC]
      refine tk 1 oN1 (.slice (some ⟨g,0,none⟩) x.ps.length x.c) rfl (by kernel_rfl) (fun _ _ _ h=>h) (by rfl) (fun w hSw=>?_) hHeld ?_
      ·(try dsimp only at hSw)
       unfold oN1
       go_simp
      try simp only[oN1,Act.put,zA,zB,zC]
      refine tk 2 oN2 (.int .i64 k) rfl (by kernel_rfl) (fun _ _ _ h=>h) (by rfl) (fun w hSw=>?_) hHeld ?_
      ·(try dsimp only at hSw)
       unfold oN2
       go_simp
      try simp only[oN2,Act.put,zA,zB,zC]
      refine tk 3 oN3 (.pointer (some ⟨g,k*3,none⟩)) rfl (by kernel_rfl) (fun _ _ _ h=>h) (by rfl) (fun w hSw=>?_) hHeld ?_
      ·(try dsimp only at hSw)
       unfold oN3
       go_simp
      try simp only[oN3,Act.put,zA,zB,zC]
      refine tk 4 oN4 (.pointer (some ⟨g,k*3,none⟩)) rfl (by kernel_rfl) (fun _ _ _ h=>h) (by rfl) (fun w hSw=>?_) hHeld ?_
      ·(try dsimp only at hSw)
       unfold oN4
       go_simp
      try simp only[oN4,Act.put,zA,zB,zC]
      refine tk 5 oN5 (.int .i64 z0) rfl (by kernel_rfl) (fun _ _ _ h=>h) (by rfl) (fun w hSw=>?_) hHeld ?_
      ·(try dsimp only at hSw)
       unfold oN5
       go_simp
      try simp only[oN5,Act.put,zA,zB,zC]
      refine tk 6 oN6 (.pointer (some ⟨w.heap.size+1,0,none⟩)) rfl (by kernel_rfl) (fun _ _ _ h=>h) (by rfl) (fun w hSw=>?_) hHeld ?_
      ·(try dsimp only at hSw)
       unfold oN6
       go_simp
      try simp only[oN6,Act.put,zA,zB,zC]
      refine tk 7 oN7 (.int .i64 f0) rfl (by kernel_rfl) (fun _ _ _ h=>h) (by rfl) (fun w hSw=>?_) hHeld ?_
      ·(try dsimp only at hSw)
       unfold oN7
       go_simp
      try simp only[oN7,Act.put,zA,zB,zC]
      refine tk 8 oN8 (.bool false) rfl (by kernel_rfl) (fun _ _ _ h=>h) (by rfl) (fun w hSw=>?_) hHeld ?_
      ·(try dsimp only at hSw)
       unfold oN8
       go_simp
      try simp only[oN8,Act.put,zA,zB,zC]
      refine wpAnyH_done (by kernel_rfl) ?_ _
      have P8D:=zh (zu P8).drew
      go_wp2
      go_roundw
      case rel=>exact⟨k+1,(m+1),c8,(some ⟨g8,0,none⟩),(L++[(f0,f1,f2)]),true,rfl,by go_num,by omega,by omega,NX,P8D⟩
      case measure=>simp[intOf];omega
     ·have K6:wr.cell? ⟨w.heap.size,1,none⟩=some (.slice (some ⟨g,0,none⟩) x.ps.length x.c)∧wr.cell? ⟨g,k*3,none⟩=some (.int .i64 z0)∧wr.cell? ⟨w.heap.size+1,0,none⟩=some (.int .i64 f0):=⟨u1c,u10,u1f⟩
      go_wp2_with fail
      refine wp_region_held_drew (S:=(fun w'=>w'.cell? ⟨w.heap.size,1,none⟩=some (.slice (some ⟨g,0,none⟩) x.ps.length x.c)∧w'.cell? ⟨g,k*3,none⟩=some (.int .i64 z0)∧w'.cell? ⟨w.heap.size+1,0,none⟩=some (.int .i64 f0))) (by kernel_rfl) K6 (fun hHeld=>?_)
      refine tk 0 oS0 (.bool false) rfl (by kernel_rfl) (fun _ _ _ h=>h) (by rfl) (fun w hSw=>?_) hHeld ?_
      ·(try dsimp only at hSw)
       unfold oS0
       go_simp
      try simp only[oS0,Act.put,zA,zB,zC]
      refine tk 1 oS1 (.bool true) rfl (by kernel_rfl) (fun _ _ _ h=>h) (by rfl) (fun w hSw=>?_) hHeld ?_
      ·(try dsimp only at hSw)
       unfold oS1
       go_simp
      try simp only[oS1,Act.put,zA,zB,zC]
      refine tk 2 oS2 (.bool true) rfl (by kernel_rfl) (fun _ _ _ h=>h) (by rfl) (fun w hSw=>?_) hHeld ?_
      ·(try dsimp only at hSw)
       unfold oS2
       go_simp
      try simp only[oS2,Act.put,zA,zB,zC]
      refine tk 3 oS3 (.pointer (some ⟨w.heap.size,1,none⟩)) rfl (by kernel_rfl) (fun _ _ _ h=>h) (by rfl) (fun w hSw=>?_) hHeld ?_
      ·(try dsimp only at hSw)
       unfold oS3
       go_simp
      try simp only[oS3,Act.put,zA,zB,zC]
      refine tk 4 oS4 (.slice (some ⟨g,0,none⟩) x.ps.length x.c) rfl (by kernel_rfl) (fun _ _ _ h=>h) (by rfl) (fun w hSw=>?_) hHeld ?_
      ·(try dsimp only at hSw)
       unfold oS4
       go_simp
      try simp only[oS4,Act.put,zA,zB,zC]
      refine tk 5 oS5 (.int .i64 k) rfl (by kernel_rfl) (fun _ _ _ h=>h) (by rfl) (fun w hSw=>?_) hHeld ?_
      ·(try dsimp only at hSw)
       unfold oS5
       go_simp
      try simp only[oS5,Act.put,zA,zB,zC]
      refine tk 6 oS6 (.pointer (some ⟨g,k*3,none⟩)) rfl (by kernel_rfl) (fun _ _ _ h=>h) (by rfl) (fun w hSw=>?_) hHeld ?_
      ·(try dsimp only at hSw)
       unfold oS6
       go_simp
      try simp only[oS6,Act.put,zA,zB,zC]
      refine tk 7 oS7 (.pointer (some ⟨g,k*3,none⟩)) rfl (by kernel_rfl) (fun _ _ _ h=>h) (by rfl) (fun w hSw=>?_) hHeld ?_
      ·(try dsimp only at hSw)
       unfold oS7
       go_simp
      try simp only[oS7,Act.put,zA,zB,zC]
      refine tk 8 oS8 (.int .i64 z0) rfl (by kernel_rfl) (fun _ _ _ h=>h) (by rfl) (fun w hSw=>?_) hHeld ?_
      ·(try dsimp only at hSw)
       unfold oS8
       go_simp
      try simp only[oS8,Act.put,zA,zB,zC]
      refine tk 9 oS9 (.pointer (some ⟨w.heap.size+1,0,none⟩)) rfl (by kernel_rfl) (fun _ _ _ h=>h) (by rfl) (fun w hSw=>?_) hHeld ?_
      ·(try dsimp only at hSw)
       unfold oS9
       go_simp
      try simp only[oS9,Act.put,zA,zB,zC]
      refine tk 10 oS10 (.int .i64 f0) rfl (by kernel_rfl) (fun _ _ _ h=>h) (by rfl) (fun w hSw=>?_) hHeld ?_
      ·(try dsimp only at hSw)
       unfold oS10
       go_simp
      try simp only[oS10,Act.put,zA,zB,zC]
      refine tk 11 oS11 (.bool true) rfl (by kernel_rfl) (fun _ _ _ h=>h) (by rfl) (fun w hSw=>?_) hHeld ?_
      ·(try dsimp only at hSw)
       unfold oS11
       go_simp
      try simp only[oS11,Act.put,zA,zB,zC]
      refine tk 12 oS12 (.bool true) rfl (by kernel_rfl) (fun _ _ _ h=>h) (by rfl) (fun w hSw=>?_) hHeld ?_
      ·(try dsimp only at hSw)
       unfold oS12
       go_simp
      try simp only[oS12,Act.put,zA,zB,zC]
      refine wpAnyH_done (by kernel_rfl) ?_ _
      have PV:=zh (zu HPt).drew
      generalize wr.drew=v1 at *
      have u5c:=(kcell (zu PV).gr 1 wl0 (by omega)).trans (zu HC)
      have u50:=(kcell (zu PV).gr (k*3) lg gn).trans (zu D0)
      have u51:=(kcell (zu PV).gr (k*3+1) lg gn).trans (zu D1)
      have u52:=(kcell (zu PV).gr (k*3+2) lg gn).trans (zu D2)
      have u5f:=(kcell (zu PV).gr 0 wl1 (by omega)).trans (zu F0)
      have u5g:=(kcell (zu PV).gr 1 wl1 (by omega)).trans (zu F1)
      have u5h:=(kcell (zu PV).gr 2 wl1 (by omega)).trans (zu F2)
      have u5s:=(zu PV).gr.size
      have bo:=(zu PV).bx.c1
      have lo:=(zu PV).bx.lt.2
      have bob:(v1.alloc (.cells #[.int .i64 f0,.string f1,.string f2] 120)).cell? ⟨w.heap.size+1+1+1,1,none⟩=some (.slice a (m) c):=((one_more v1 (.cells #[.int .i64 f0,.string f1,.string f2] 120)).cell (p:=⟨w.heap.size+1+1+1,1,none⟩) lo).trans bo
      have vs:=(zu PV).gr.size
      go_wp2_with (first|(at_builtin;refine wp_app _ rfl _ _ rfl W.heap.size (.slice a (m) c) (m) (flatF (L)) v1.heap.size [.int .i64 f0,.string f1,.string f2] rfl rfl (row_step (zu PV).ow (one_more v1 (.cells #[.int .i64 f0,.string f1,.string f2] 120))) rfl (litm v1 _ _ _ (by rfl)) (by simp[Value.oneCell']) (by omega) (Nat.le_trans vs (by simp)) ?_)|go_in)
      intro g8 c8 u8 o8 gr8
      (try rw[←s3] at o8)
      have PA:=(zu PV).app (p:=(f0,f1,f2)) hO (one_more v1 (.cells #[.int .i64 f0,.string f1,.string f2] 120)) gr8 o8
      have bx8:=PA.1
      have b80:=bx8.c1
      have b81:=bx8.free 1
      have P8:=zh PA.2
      clear o8 gr8 PA bo bob bx8
      go_wp2_with fail
      generalize u8.setCell ⟨w.heap.size+1+1+1,1,none⟩ (.slice (some ⟨g8,0,none⟩) (m+1) c8)=v2 at *
      have NX:=zh (show putN x.ps (f0,f1,f2) (k+1)=((L++[(f0,f1,f2)])++[(z0,z1,z2)],true) from by rw[putN_succ (zu HP),zu EP];simp[PBV,qe,QF])
      have hq:(z0 !=f0)=true:=by simp[qe]
      clear qe
      have u2c:=(kcell (zu P8).gr 1 wl0 (by omega)).trans (zu HC)
      have u20:=(kcell (zu P8).gr (k*3) lg gn).trans (zu D0)
      have u21:=(kcell (zu P8).gr (k*3+1) lg gn).trans (zu D1)
      have u22:=(kcell (zu P8).gr (k*3+2) lg gn).trans (zu D2)
      have u2f:=(kcell (zu P8).gr 0 wl1 (by omega)).trans (zu F0)
      have u2g:=(kcell (zu P8).gr 1 wl1 (by omega)).trans (zu F1)
      have u2h:=(kcell (zu P8).gr 2 wl1 (by omega)).trans (zu F2)
      have u2s:=(zu P8).gr.size
      have K2:v2.cell? ⟨w.heap.size,1,none⟩=some (.slice (some ⟨g,0,none⟩) x.ps.length x.c)∧v2.cell? ⟨g,k*3,none⟩=some (.int .i64 z0)∧v2.cell? ⟨w.heap.size+1,0,none⟩=some (.int .i64 f0):=⟨u2c,u20,u2f⟩
      refine wp_region_held_drew (S:=(fun w'=>w'.cell? ⟨w.heap.size,1,none⟩=some (.slice (some ⟨g,0,none⟩) x.ps.length x.c)∧w'.cell? ⟨g,k*3,none⟩=some (.int .i64 z0)∧w'.cell? ⟨w.heap.size+1,0,none⟩=some (.int .i64 f0))) (by kernel_rfl) K2 (fun hHeld=>?_)
      refine tk 0 oN0 (.pointer (some ⟨w.heap.size,1,none⟩)) rfl (by kernel_rfl) (fun _ _ _ h=>h) (by rfl) (fun w hSw=>?_) hHeld ?_
      ·(try dsimp only at hSw)
       unfold oN0
       go_simp
      try simp only[oN0,Act.put,zA,zB,zC]
      refine tk 1 oN1 (.slice (some ⟨g,0,none⟩) x.ps.length x.c) rfl (by kernel_rfl) (fun _ _ _ h=>h) (by rfl) (fun w hSw=>?_) hHeld ?_
      ·(try dsimp only at hSw)
       unfold oN1
       go_simp
      try simp only[oN1,Act.put,zA,zB,zC]
      refine tk 2 oN2 (.int .i64 k) rfl (by kernel_rfl) (fun _ _ _ h=>h) (by rfl) (fun w hSw=>?_) hHeld ?_
      ·(try dsimp only at hSw)
       unfold oN2
       go_simp
      try simp only[oN2,Act.put,zA,zB,zC]
      refine tk 3 oN3 (.pointer (some ⟨g,k*3,none⟩)) rfl (by kernel_rfl) (fun _ _ _ h=>h) (by rfl) (fun w hSw=>?_) hHeld ?_
      ·(try dsimp only at hSw)
       unfold oN3
       go_simp
      try simp only[oN3,Act.put,zA,zB,zC]
      refine tk 4 oN4 (.pointer (some ⟨g,k*3,none⟩)) rfl (by kernel_rfl) (fun _ _ _ h=>h) (by rfl) (fun w hSw=>?_) hHeld ?_
      ·(try dsimp only at hSw)
       unfold oN4
       go_simp
      try simp only[oN4,Act.put,zA,zB,zC]
      refine tk 5 oN5 (.int .i64 z0) rfl (by kernel_rfl) (fun _ _ _ h=>h) (by rfl) (fun w hSw=>?_) hHeld ?_
      ·(try dsimp only at hSw)
       unfold oN5
       go_simp
      try simp only[oN5,Act.put,zA,zB,zC]
      refine tk 6 oN6 (.pointer (some ⟨w.heap.size+1,0,none⟩)) rfl (by kernel_rfl) (fun _ _ _ h=>h) (by rfl) (fun w hSw=>?_) hHeld ?_
      ·(try dsimp only at hSw)
       unfold oN6
       go_simp
      try simp only[oN6,Act.put,zA,zB,zC]
      refine tk 7 oN7 (.int .i64 f0) rfl (by kernel_rfl) (fun _ _ _ h=>h) (by rfl) (fun w hSw=>?_) hHeld ?_
      ·(try dsimp only at hSw)
       unfold oN7
       go_simp
      try simp only[oN7,Act.put,zA,zB,zC]
      refine tk 8 oN8 (.bool true) rfl (by kernel_rfl) (fun _ _ _ h=>h) (by rfl) (fun w hSw=>?_) hHeld ?_
      ·(try dsimp only at hSw)
       unfold oN8
       go_simp
      try simp only[oN8,Act.put,zA,zB,zC]
      refine wpAnyH_done (by kernel_rfl) ?_ _
      have P8D:=zh (zu P8).drew
      go_wp2_with fail
      generalize v2.drew=q2 at *
      have u3c:=(kcell (zu P8D).gr 1 wl0 (by omega)).trans (zu HC)
      have u30:=(kcell (zu P8D).gr (k*3) lg gn).trans (zu D0)
      have u31:=(kcell (zu P8D).gr (k*3+1) lg gn).trans (zu D1)
      have u32:=(kcell (zu P8D).gr (k*3+2) lg gn).trans (zu D2)
      have u3f:=(kcell (zu P8D).gr 0 wl1 (by omega)).trans (zu F0)
      have u3g:=(kcell (zu P8D).gr 1 wl1 (by omega)).trans (zu F1)
      have u3h:=(kcell (zu P8D).gr 2 wl1 (by omega)).trans (zu F2)
      have u3s:=(zu P8D).gr.size
      have K0:q2.cell? ⟨w.heap.size,1,none⟩=some (.slice (some ⟨g,0,none⟩) x.ps.length x.c)∧q2.cell? ⟨g,k*3,none⟩=some (.int .i64 z0)∧q2.cell? ⟨g,k*3+1,none⟩=some (.string z1)∧q2.cell? ⟨g,k*3+2,none⟩=some (.string z2):=⟨u3c,u30,u31,u32⟩
      have KB:(q2.drew.alloc (.cells #[.int .i64 z0,.string z1,.string z2] 120)).cell? ⟨w.heap.size,1,none⟩=some (.slice (some ⟨g,0,none⟩) x.ps.length x.c)∧(q2.drew.alloc (.cells #[.int .i64 z0,.string z1,.string z2] 120)).cell? ⟨g,k*3,none⟩=some (.int .i64 z0)∧(q2.drew.alloc (.cells #[.int .i64 z0,.string z1,.string z2] 120)).cell? ⟨g,k*3+1,none⟩=some (.string z1)∧(q2.drew.alloc (.cells #[.int .i64 z0,.string z1,.string z2] 120)).cell? ⟨g,k*3+2,none⟩=some (.string z2):=⟨((one_more q2.drew (.cells #[.int .i64 z0,.string z1,.string z2] 120)).cell (p:=⟨w.heap.size,1,none⟩) (show w.heap.size<q2.heap.size from by omega)).trans u3c,((one_more q2.drew (.cells #[.int .i64 z0,.string z1,.string z2] 120)).cell (p:=⟨g,k*3,none⟩) (show g<q2.heap.size from by omega)).trans u30,((one_more q2.drew (.cells #[.int .i64 z0,.string z1,.string z2] 120)).cell (p:=⟨g,k*3+1,none⟩) (show g<q2.heap.size from by omega)).trans u31,((one_more q2.drew (.cells #[.int .i64 z0,.string z1,.string z2] 120)).cell (p:=⟨g,k*3+2,none⟩) (show g<q2.heap.size from by omega)).trans u32⟩
      have bc:=(zu P8D).bx.c1
      have lo9:=(zu P8D).bx.lt.2
      have bcD:q2.drew.cell? ⟨w.heap.size+1+1+1,1,none⟩=some (.slice (some ⟨g8,0,none⟩) ((m+1)) c8):=bc
      have bcA:(q2.alloc (.cells #[.int .i64 z0,.string z1,.string z2] 120)).cell? ⟨w.heap.size+1+1+1,1,none⟩=some (.slice (some ⟨g8,0,none⟩) ((m+1)) c8):=((one_more q2.drew (.cells #[.int .i64 z0,.string z1,.string z2] 120)).cell (p:=⟨w.heap.size+1+1+1,1,none⟩) lo9).trans bc
      refine wp_region_held_drew (S:=(fun w'=>w'.cell? ⟨w.heap.size,1,none⟩=some (.slice (some ⟨g,0,none⟩) x.ps.length x.c)∧w'.cell? ⟨g,k*3,none⟩=some (.int .i64 z0)∧w'.cell? ⟨g,k*3+1,none⟩=some (.string z1)∧w'.cell? ⟨g,k*3+2,none⟩=some (.string z2))) (by kernel_rfl) K0 (fun hHeld=>?_)
      refine tk 0 oT0 (.pointer (some ⟨w.heap.size+1+1+1,1,none⟩)) rfl (by kernel_rfl) (fun _ _ _ h=>h) (by rfl) (fun w hSw=>?_) hHeld ?_
      ·(try dsimp only at hSw)
       unfold oT0
       go_simp
      try simp only[oT0,Act.put,zA,zB,zC]
      refine tk 2 oT2 (.pointer (some ⟨w.heap.size,1,none⟩)) rfl (by kernel_rfl) (fun _ _ _ h=>h) (by rfl) (fun w hSw=>?_) hHeld ?_
      ·(try dsimp only at hSw)
       unfold oT2
       go_simp
      try simp only[oT2,Act.put,zA,zB,zC]
      refine tk 3 oT3 (.slice (some ⟨g,0,none⟩) x.ps.length x.c) rfl (by kernel_rfl) (fun _ _ _ h=>h) (by rfl) (fun w hSw=>?_) hHeld ?_
      ·(try dsimp only at hSw)
       unfold oT3
       go_simp
      try simp only[oT3,Act.put,zA,zB,zC]
      refine tk 4 oT4 (.int .i64 k) rfl (by kernel_rfl) (fun _ _ _ h=>h) (by rfl) (fun w hSw=>?_) hHeld ?_
      ·(try dsimp only at hSw)
       unfold oT4
       go_simp
      try simp only[oT4,Act.put,zA,zB,zC]
      refine tk 5 oT5 (.pointer (some ⟨g,k*3,none⟩)) rfl (by kernel_rfl) (fun _ _ _ h=>h) (by rfl) (fun w hSw=>?_) hHeld ?_
      ·(try dsimp only at hSw)
       unfold oT5
       go_simp
      try simp only[oT5,Act.put,zA,zB,zC]
      refine tk 6 oT6 (.agg #[.int .i64 z0,.string z1,.string z2]) rfl (by kernel_rfl) (fun _ _ _ h=>h) (by rfl) (fun w hSw=>?_) hHeld ?_
      ·(try dsimp only at hSw)
       unfold oT6
       go_simp
      try simp only[oT6,Act.put,zA,zB,zC]
      refine wpAnyH_ready (rs:=[1,7]) (by kernel_rfl) (by simp) ?_
      refine AllReadyH.cons (o:=oT1) rfl (fun K hK=>?_) (AllReadyH.cons (o:=oT7) rfl (fun K hK=>?_) AllReadyH.nil)
      ·unfold oT1
       go_simp
       refine hK.out _ _ K0 (fun hHeld=>?_)
       clear hK K
       try simp only[oT1,Act.put,zA,zB,zC]
       refine wpAnyH_ready (rs:=[7]) (by kernel_rfl) (by simp) ?_
       refine AllReadyH.cons (o:=oT7) rfl (fun K hK=>?_) AllReadyH.nil
       unfold oT7
       go_simp
       refine hK.out _ _ KB (fun hHeld=>?_)
       clear hK K
       try simp only[oT7,Act.put,zA,zB,zC]
       refine wpAnyH_ready (rs:=[8]) (by kernel_rfl) (by simp) ?_
       refine AllReadyH.cons (o:=oT8) rfl (fun K hK=>?_) AllReadyH.nil
       refine step_app (q2.drew.alloc (.cells #[.int .i64 z0,.string z1,.string z2] 120)) (by rfl) _ _ 50 120 (by rfl) (.agg #[.int .i64 0,.string ByteArray.empty,.string ByteArray.empty]) 3 40 Tryz.underlying50 HelpF14.info2 rfl (by decide) (by decide) W.heap.size (.slice (some ⟨g8,0,none⟩) ((m+1)) c8) ((m+1)) (flatF ((L++[(f0,f1,f2)]))) q2.drew.heap.size [.int .i64 z0,.string z1,.string z2] (by rfl) (by rfl) (row_step (W:=q2.drew) (zu P8D).ow (one_more q2.drew (.cells #[.int .i64 z0,.string z1,.string z2] 120))) rfl (litm q2.drew _ _ _ (by rfl)) (by simp[Value.oneCell']) (by omega) (Nat.le_trans (show W.heap.size≤q2.drew.heap.size from u3s) (by simp)) ?_
       intro g9 c9 u9 o9 gr9
       have BL:=(zu P8D).off
       have PA:=(zu P8D).app (p:=(z0,z1,z2)) hO ((Below.refl _ _).drew.alloc (Nat.le_refl _) (.cells #[.int .i64 z0,.string z1,.string z2] 120)) gr9 o9
       have bx9:=PA.1
       have bc9:=bx9.c1
       have fr9:=bx9.free 1
       have P9:=zh PA.2
       have us9:=gr9.size
       simp at us9
       have KC:u9.cell? ⟨w.heap.size,1,none⟩=some (.slice (some ⟨g,0,none⟩) x.ps.length x.c)∧u9.cell? ⟨g,k*3,none⟩=some (.int .i64 z0)∧u9.cell? ⟨g,k*3+1,none⟩=some (.string z1)∧u9.cell? ⟨g,k*3+2,none⟩=some (.string z2):=⟨gr9.cell KB.1 (fun e=>by have:=BL _ e.symm;simp only at this;omega),gr9.cell KB.2.1 (fun e=>by have:=BL _ e.symm;simp only at this;omega),gr9.cell KB.2.2.1 (fun e=>by have:=BL _ e.symm;simp only at this;omega),gr9.cell KB.2.2.2 (fun e=>by have:=BL _ e.symm;simp only at this;omega)⟩
       have SB:=bc_set1 bx9 (.slice (some ⟨g9,0,none⟩) ((m+1)+1) c9)
       have KD:(u9.setCell ⟨w.heap.size+1+1+1,1,none⟩ (.slice (some ⟨g9,0,none⟩) ((m+1)+1) c9)).cell? ⟨w.heap.size,1,none⟩=some (.slice (some ⟨g,0,none⟩) x.ps.length x.c)∧(u9.setCell ⟨w.heap.size+1+1+1,1,none⟩ (.slice (some ⟨g9,0,none⟩) ((m+1)+1) c9)).cell? ⟨g,k*3,none⟩=some (.int .i64 z0)∧(u9.setCell ⟨w.heap.size+1+1+1,1,none⟩ (.slice (some ⟨g9,0,none⟩) ((m+1)+1) c9)).cell? ⟨g,k*3+1,none⟩=some (.string z1)∧(u9.setCell ⟨w.heap.size+1+1+1,1,none⟩ (.slice (some ⟨g9,0,none⟩) ((m+1)+1) c9)).cell? ⟨g,k*3+2,none⟩=some (.string z2):=⟨(kcell SB.2 (1) (show w.heap.size<u9.heap.size from by omega) (show w.heap.size≠w.heap.size+1+1+1 from by omega)).trans KC.1,(kcell SB.2 (k*3) (show g<u9.heap.size from by omega) (show g≠w.heap.size+1+1+1 from by omega)).trans KC.2.1,(kcell SB.2 (k*3+1) (show g<u9.heap.size from by omega) (show g≠w.heap.size+1+1+1 from by omega)).trans KC.2.2.1,(kcell SB.2 (k*3+2) (show g<u9.heap.size from by omega) (show g≠w.heap.size+1+1+1 from by omega)).trans KC.2.2.2⟩
       clear o9 gr9 PA SB bx9 BL
       refine hK.out _ _ KC (fun hHeld=>?_)
       clear hK K
       try simp only[oT8,Act.put,zA,zB,zC]
       refine tk 9 oT9 (.pointer (some ⟨w.heap.size+1+1+1,1,none⟩)) rfl (by kernel_rfl) (fun _ _ _ h=>h) (by rfl) (fun w hSw=>?_) hHeld ?_
       ·(try dsimp only at hSw)
        unfold oT9
        go_simp
       try simp only[oT9,Act.put,zA,zB,zC]
       refine wpAnyH_ready (rs:=[10]) (by kernel_rfl) (by simp) ?_
       refine AllReadyH.cons (o:=oT10) rfl (fun K hK=>?_) AllReadyH.nil
       unfold oT10
       go_simp
       refine hK.out _ _ KD (fun hHeld=>?_)
       clear hK K
       try simp only[oT10,Act.put,zA,zB,zC]
       refine wpAnyH_done (by kernel_rfl) ?_ _
       clear K0 KB KC KD bc bcD bcA bc9 fr9
       go_wp2
       go_roundw
       case rel=>exact⟨k+1,(m+1)+1,c9,some ⟨g9,0,none⟩,(L++[(f0,f1,f2)])++[(z0,z1,z2)],true,rfl,by go_num,by omega,by omega,NX,P9⟩
       case measure=>simp[intOf];omega
      ·unfold oT7
       go_simp
       refine hK.out _ _ KB (fun hHeld=>?_)
       clear hK K
       try simp only[oT7,Act.put,zA,zB,zC]
       refine wpAnyH_ready (rs:=[1]) (by kernel_rfl) (by simp) ?_
       refine AllReadyH.cons (o:=oT1) rfl (fun K hK=>?_) AllReadyH.nil
       unfold oT1
       go_simp
       refine hK.out _ _ KB (fun hHeld=>?_)
       clear hK K
       try simp only[oT1,Act.put,zA,zB,zC]
       refine wpAnyH_ready (rs:=[8]) (by kernel_rfl) (by simp) ?_
       refine AllReadyH.cons (o:=oT8) rfl (fun K hK=>?_) AllReadyH.nil
       refine step_app (q2.drew.alloc (.cells #[.int .i64 z0,.string z1,.string z2] 120)) (by rfl) _ _ 50 120 (by rfl) (.agg #[.int .i64 0,.string ByteArray.empty,.string ByteArray.empty]) 3 40 Tryz.underlying50 HelpF14.info2 rfl (by decide) (by decide) W.heap.size (.slice (some ⟨g8,0,none⟩) ((m+1)) c8) ((m+1)) (flatF ((L++[(f0,f1,f2)]))) q2.drew.heap.size [.int .i64 z0,.string z1,.string z2] (by rfl) (by rfl) (row_step (W:=q2.drew) (zu P8D).ow (one_more q2.drew (.cells #[.int .i64 z0,.string z1,.string z2] 120))) rfl (litm q2.drew _ _ _ (by rfl)) (by simp[Value.oneCell']) (by omega) (Nat.le_trans (show W.heap.size≤q2.drew.heap.size from u3s) (by simp)) ?_
       intro g9 c9 u9 o9 gr9
       have BL:=(zu P8D).off
       have PA:=(zu P8D).app (p:=(z0,z1,z2)) hO ((Below.refl _ _).drew.alloc (Nat.le_refl _) (.cells #[.int .i64 z0,.string z1,.string z2] 120)) gr9 o9
       have bx9:=PA.1
       have bc9:=bx9.c1
       have fr9:=bx9.free 1
       have P9:=zh PA.2
       have us9:=gr9.size
       simp at us9
       have KC:u9.cell? ⟨w.heap.size,1,none⟩=some (.slice (some ⟨g,0,none⟩) x.ps.length x.c)∧u9.cell? ⟨g,k*3,none⟩=some (.int .i64 z0)∧u9.cell? ⟨g,k*3+1,none⟩=some (.string z1)∧u9.cell? ⟨g,k*3+2,none⟩=some (.string z2):=⟨gr9.cell KB.1 (fun e=>by have:=BL _ e.symm;simp only at this;omega),gr9.cell KB.2.1 (fun e=>by have:=BL _ e.symm;simp only at this;omega),gr9.cell KB.2.2.1 (fun e=>by have:=BL _ e.symm;simp only at this;omega),gr9.cell KB.2.2.2 (fun e=>by have:=BL _ e.symm;simp only at this;omega)⟩
       have SB:=bc_set1 bx9 (.slice (some ⟨g9,0,none⟩) ((m+1)+1) c9)
       have KD:(u9.setCell ⟨w.heap.size+1+1+1,1,none⟩ (.slice (some ⟨g9,0,none⟩) ((m+1)+1) c9)).cell? ⟨w.heap.size,1,none⟩=some (.slice (some ⟨g,0,none⟩) x.ps.length x.c)∧(u9.setCell ⟨w.heap.size+1+1+1,1,none⟩ (.slice (some ⟨g9,0,none⟩) ((m+1)+1) c9)).cell? ⟨g,k*3,none⟩=some (.int .i64 z0)∧(u9.setCell ⟨w.heap.size+1+1+1,1,none⟩ (.slice (some ⟨g9,0,none⟩) ((m+1)+1) c9)).cell? ⟨g,k*3+1,none⟩=some (.string z1)∧(u9.setCell ⟨w.heap.size+1+1+1,1,none⟩ (.slice (some ⟨g9,0,none⟩) ((m+1)+1) c9)).cell? ⟨g,k*3+2,none⟩=some (.string z2):=⟨(kcell SB.2 (1) (show w.heap.size<u9.heap.size from by omega) (show w.heap.size≠w.heap.size+1+1+1 from by omega)).trans KC.1,(kcell SB.2 (k*3) (show g<u9.heap.size from by omega) (show g≠w.heap.size+1+1+1 from by omega)).trans KC.2.1,(kcell SB.2 (k*3+1) (show g<u9.heap.size from by omega) (show g≠w.heap.size+1+1+1 from by omega)).trans KC.2.2.1,(kcell SB.2 (k*3+2) (show g<u9.heap.size from by omega) (show g≠w.heap.size+1+1+1 from by omega)).trans KC.2.2.2⟩
       clear o9 gr9 PA SB bx9 BL
       refine hK.out _ _ KC (fun hHeld=>?_)
       clear hK K
       try simp only[oT8,Act.put,zA,zB,zC]
       refine tk 9 oT9 (.pointer (some ⟨w.heap.size+1+1+1,1,none⟩)) rfl (by kernel_rfl) (fun _ _ _ h=>h) (by rfl) (fun w hSw=>?_) hHeld ?_
       ·(try dsimp only at hSw)
        unfold oT9
        go_simp
       try simp only[oT9,Act.put,zA,zB,zC]
       refine wpAnyH_ready (rs:=[10]) (by kernel_rfl) (by simp) ?_
       refine AllReadyH.cons (o:=oT10) rfl (fun K hK=>?_) AllReadyH.nil
       unfold oT10
       go_simp
       refine hK.out _ _ KD (fun hHeld=>?_)
       clear hK K
       try simp only[oT10,Act.put,zA,zB,zC]
       refine wpAnyH_done (by kernel_rfl) ?_ _
       clear K0 KB KC KD bc bcD bcA bc9 fr9
       go_wp2
       go_roundw
       case rel=>exact⟨k+1,(m+1)+1,c9,some ⟨g9,0,none⟩,(L++[(f0,f1,f2)])++[(z0,z1,z2)],true,rfl,by go_num,by omega,by omega,NX,P9⟩
       case measure=>simp[intOf];omega
    ·have PBV:True:=trivial
     have QF:¬f0≤z0:=qf
     have hg:¬z0≥f0:=qf
     have qe:¬z0=f0:=by omega
     have K6:wr.cell? ⟨w.heap.size,1,none⟩=some (.slice (some ⟨g,0,none⟩) x.ps.length x.c)∧wr.cell? ⟨g,k*3,none⟩=some (.int .i64 z0)∧wr.cell? ⟨w.heap.size+1,0,none⟩=some (.int .i64 f0):=⟨u1c,u10,u1f⟩
     go_wp2_with fail
     refine wp_region_held_drew (S:=(fun w'=>w'.cell? ⟨w.heap.size,1,none⟩=some (.slice (some ⟨g,0,none⟩) x.ps.length x.c)∧w'.cell? ⟨g,k*3,none⟩=some (.int .i64 z0)∧w'.cell? ⟨w.heap.size+1,0,none⟩=some (.int .i64 f0))) (by kernel_rfl) K6 (fun hHeld=>?_)
     refine tk 0 oS0 (.bool false) rfl (by kernel_rfl) (fun _ _ _ h=>h) (by rfl) (fun w hSw=>?_) hHeld ?_
     ·(try dsimp only at hSw)
      unfold oS0
      go_simp
     try simp only[oS0,Act.put,zA,zB,zC]
     refine tk 1 oS1 (.bool true) rfl (by kernel_rfl) (fun _ _ _ h=>h) (by rfl) (fun w hSw=>?_) hHeld ?_
     ·(try dsimp only at hSw)
      unfold oS1
      go_simp
     try simp only[oS1,Act.put,zA,zB,zC]
     refine tk 2 oS2 (.bool true) rfl (by kernel_rfl) (fun _ _ _ h=>h) (by rfl) (fun w hSw=>?_) hHeld ?_
     ·(try dsimp only at hSw)
      unfold oS2
      go_simp
     try simp only[oS2,Act.put,zA,zB,zC]
     refine tk 3 oS3 (.pointer (some ⟨w.heap.size,1,none⟩)) rfl (by kernel_rfl) (fun _ _ _ h=>h) (by rfl) (fun w hSw=>?_) hHeld ?_
     ·(try dsimp only at hSw)
      unfold oS3
      go_simp
     try simp only[oS3,Act.put,zA,zB,zC]
     refine tk 4 oS4 (.slice (some ⟨g,0,none⟩) x.ps.length x.c) rfl (by kernel_rfl) (fun _ _ _ h=>h) (by rfl) (fun w hSw=>?_) hHeld ?_
     ·(try dsimp only at hSw)
      unfold oS4
      go_simp
     try simp only[oS4,Act.put,zA,zB,zC]
     refine tk 5 oS5 (.int .i64 k) rfl (by kernel_rfl) (fun _ _ _ h=>h) (by rfl) (fun w hSw=>?_) hHeld ?_
     ·(try dsimp only at hSw)
      unfold oS5
      go_simp
     try simp only[oS5,Act.put,zA,zB,zC]
     refine tk 6 oS6 (.pointer (some ⟨g,k*3,none⟩)) rfl (by kernel_rfl) (fun _ _ _ h=>h) (by rfl) (fun w hSw=>?_) hHeld ?_
     ·(try dsimp only at hSw)
      unfold oS6
      go_simp
     try simp only[oS6,Act.put,zA,zB,zC]
     refine tk 7 oS7 (.pointer (some ⟨g,k*3,none⟩)) rfl (by kernel_rfl) (fun _ _ _ h=>h) (by rfl) (fun w hSw=>?_) hHeld ?_
     ·(try dsimp only at hSw)
      unfold oS7
      go_simp
     try simp only[oS7,Act.put,zA,zB,zC]
     refine tk 8 oS8 (.int .i64 z0) rfl (by kernel_rfl) (fun _ _ _ h=>h) (by rfl) (fun w hSw=>?_) hHeld ?_
     ·(try dsimp only at hSw)
      unfold oS8
      go_simp
     try simp only[oS8,Act.put,zA,zB,zC]
     refine tk 9 oS9 (.pointer (some ⟨w.heap.size+1,0,none⟩)) rfl (by kernel_rfl) (fun _ _ _ h=>h) (by rfl) (fun w hSw=>?_) hHeld ?_
     ·(try dsimp only at hSw)
      unfold oS9
      go_simp
     try simp only[oS9,Act.put,zA,zB,zC]
     refine tk 10 oS10 (.int .i64 f0) rfl (by kernel_rfl) (fun _ _ _ h=>h) (by rfl) (fun w hSw=>?_) hHeld ?_
     ·(try dsimp only at hSw)
      unfold oS10
      go_simp
     try simp only[oS10,Act.put,zA,zB,zC]
     refine tk 11 oS11 (.bool false) rfl (by kernel_rfl) (fun _ _ _ h=>h) (by rfl) (fun w hSw=>?_) hHeld ?_
     ·(try dsimp only at hSw)
      unfold oS11
      go_simp
     try simp only[oS11,Act.put,zA,zB,zC]
     refine tk 12 oS12 (.bool false) rfl (by kernel_rfl) (fun _ _ _ h=>h) (by rfl) (fun w hSw=>?_) hHeld ?_
     ·(try dsimp only at hSw)
      unfold oS12
      go_simp
     try simp only[oS12,Act.put,zA,zB,zC]
     refine wpAnyH_done (by kernel_rfl) ?_ _
     have PV:=zh (zu HPt).drew
     go_wp2_with fail
     generalize wr.drew=v1 at *
     have NX:=zh (show putN x.ps (f0,f1,f2) (k+1)=(L++[(z0,z1,z2)],false) from by rw[putN_succ (zu HP),zu EP];simp[PBV,qe,QF])
     have hq:(z0 !=f0)=true:=by simp[qe]
     clear qe
     have u2c:=(kcell (zu PV).gr 1 wl0 (by omega)).trans (zu HC)
     have u20:=(kcell (zu PV).gr (k*3) lg gn).trans (zu D0)
     have u21:=(kcell (zu PV).gr (k*3+1) lg gn).trans (zu D1)
     have u22:=(kcell (zu PV).gr (k*3+2) lg gn).trans (zu D2)
     have u2f:=(kcell (zu PV).gr 0 wl1 (by omega)).trans (zu F0)
     have u2g:=(kcell (zu PV).gr 1 wl1 (by omega)).trans (zu F1)
     have u2h:=(kcell (zu PV).gr 2 wl1 (by omega)).trans (zu F2)
     have u2s:=(zu PV).gr.size
     have K2:v1.cell? ⟨w.heap.size,1,none⟩=some (.slice (some ⟨g,0,none⟩) x.ps.length x.c)∧v1.cell? ⟨g,k*3,none⟩=some (.int .i64 z0)∧v1.cell? ⟨w.heap.size+1,0,none⟩=some (.int .i64 f0):=⟨u2c,u20,u2f⟩
     refine wp_region_held_drew (S:=(fun w'=>w'.cell? ⟨w.heap.size,1,none⟩=some (.slice (some ⟨g,0,none⟩) x.ps.length x.c)∧w'.cell? ⟨g,k*3,none⟩=some (.int .i64 z0)∧w'.cell? ⟨w.heap.size+1,0,none⟩=some (.int .i64 f0))) (by kernel_rfl) K2 (fun hHeld=>?_)
     refine tk 0 oN0 (.pointer (some ⟨w.heap.size,1,none⟩)) rfl (by kernel_rfl) (fun _ _ _ h=>h) (by rfl) (fun w hSw=>?_) hHeld ?_
     ·(try dsimp only at hSw)
      unfold oN0
      go_simp
     try simp only[oN0,Act.put,zA,zB,zC]
     refine tk 1 oN1 (.slice (some ⟨g,0,none⟩) x.ps.length x.c) rfl (by kernel_rfl) (fun _ _ _ h=>h) (by rfl) (fun w hSw=>?_) hHeld ?_
     ·(try dsimp only at hSw)
      unfold oN1
      go_simp
     try simp only[oN1,Act.put,zA,zB,zC]
     refine tk 2 oN2 (.int .i64 k) rfl (by kernel_rfl) (fun _ _ _ h=>h) (by rfl) (fun w hSw=>?_) hHeld ?_
     ·(try dsimp only at hSw)
      unfold oN2
      go_simp
     try simp only[oN2,Act.put,zA,zB,zC]
     refine tk 3 oN3 (.pointer (some ⟨g,k*3,none⟩)) rfl (by kernel_rfl) (fun _ _ _ h=>h) (by rfl) (fun w hSw=>?_) hHeld ?_
     ·(try dsimp only at hSw)
      unfold oN3
      go_simp
     try simp only[oN3,Act.put,zA,zB,zC]
     refine tk 4 oN4 (.pointer (some ⟨g,k*3,none⟩)) rfl (by kernel_rfl) (fun _ _ _ h=>h) (by rfl) (fun w hSw=>?_) hHeld ?_
     ·(try dsimp only at hSw)
      unfold oN4
      go_simp
     try simp only[oN4,Act.put,zA,zB,zC]
     refine tk 5 oN5 (.int .i64 z0) rfl (by kernel_rfl) (fun _ _ _ h=>h) (by rfl) (fun w hSw=>?_) hHeld ?_
     ·(try dsimp only at hSw)
      unfold oN5
      go_simp
     try simp only[oN5,Act.put,zA,zB,zC]
     refine tk 6 oN6 (.pointer (some ⟨w.heap.size+1,0,none⟩)) rfl (by kernel_rfl) (fun _ _ _ h=>h) (by rfl) (fun w hSw=>?_) hHeld ?_
     ·(try dsimp only at hSw)
      unfold oN6
      go_simp
     try simp only[oN6,Act.put,zA,zB,zC]
     refine tk 7 oN7 (.int .i64 f0) rfl (by kernel_rfl) (fun _ _ _ h=>h) (by rfl) (fun w hSw=>?_) hHeld ?_
     ·(try dsimp only at hSw)
      unfold oN7
      go_simp
     try simp only[oN7,Act.put,zA,zB,zC]
     refine tk 8 oN8 (.bool true) rfl (by kernel_rfl) (fun _ _ _ h=>h) (by rfl) (fun w hSw=>?_) hHeld ?_
     ·(try dsimp only at hSw)
      unfold oN8
      go_simp
     try simp only[oN8,Act.put,zA,zB,zC]
     refine wpAnyH_done (by kernel_rfl) ?_ _
     have PVD:=zh (zu PV).drew
     go_wp2_with fail
     generalize v1.drew=q2 at *
     have u3c:=(kcell (zu PVD).gr 1 wl0 (by omega)).trans (zu HC)
     have u30:=(kcell (zu PVD).gr (k*3) lg gn).trans (zu D0)
     have u31:=(kcell (zu PVD).gr (k*3+1) lg gn).trans (zu D1)
     have u32:=(kcell (zu PVD).gr (k*3+2) lg gn).trans (zu D2)
     have u3f:=(kcell (zu PVD).gr 0 wl1 (by omega)).trans (zu F0)
     have u3g:=(kcell (zu PVD).gr 1 wl1 (by omega)).trans (zu F1)
     have u3h:=(kcell (zu PVD).gr 2 wl1 (by omega)).trans (zu F2)
     have u3s:=(zu PVD).gr.size
     have K0:q2.cell? ⟨w.heap.size,1,none⟩=some (.slice (some ⟨g,0,none⟩) x.ps.length x.c)∧q2.cell? ⟨g,k*3,none⟩=some (.int .i64 z0)∧q2.cell? ⟨g,k*3+1,none⟩=some (.string z1)∧q2.cell? ⟨g,k*3+2,none⟩=some (.string z2):=⟨u3c,u30,u31,u32⟩
     have KB:(q2.drew.alloc (.cells #[.int .i64 z0,.string z1,.string z2] 120)).cell? ⟨w.heap.size,1,none⟩=some (.slice (some ⟨g,0,none⟩) x.ps.length x.c)∧(q2.drew.alloc (.cells #[.int .i64 z0,.string z1,.string z2] 120)).cell? ⟨g,k*3,none⟩=some (.int .i64 z0)∧(q2.drew.alloc (.cells #[.int .i64 z0,.string z1,.string z2] 120)).cell? ⟨g,k*3+1,none⟩=some (.string z1)∧(q2.drew.alloc (.cells #[.int .i64 z0,.string z1,.string z2] 120)).cell? ⟨g,k*3+2,none⟩=some (.string z2):=⟨((one_more q2.drew (.cells #[.int .i64 z0,.string z1,.string z2] 120)).cell (p:=⟨w.heap.size,1,none⟩) (show w.heap.size<q2.heap.size from by omega)).trans u3c,((one_more q2.drew (.cells #[.int .i64 z0,.string z1,.string z2] 120)).cell (p:=⟨g,k*3,none⟩) (show g<q2.heap.size from by omega)).trans u30,((one_more q2.drew (.cells #[.int .i64 z0,.string z1,.string z2] 120)).cell (p:=⟨g,k*3+1,none⟩) (show g<q2.heap.size from by omega)).trans u31,((one_more q2.drew (.cells #[.int .i64 z0,.string z1,.string z2] 120)).cell (p:=⟨g,k*3+2,none⟩) (show g<q2.heap.size from by omega)).trans u32⟩
     have bc:=(zu PVD).bx.c1
     have lo9:=(zu PVD).bx.lt.2
     have bcD:q2.drew.cell? ⟨w.heap.size+1+1+1,1,none⟩=some (.slice a (m) c):=bc
     have bcA:(q2.alloc (.cells #[.int .i64 z0,.string z1,.string z2] 120)).cell? ⟨w.heap.size+1+1+1,1,none⟩=some (.slice a (m) c):=((one_more q2.drew (.cells #[.int .i64 z0,.string z1,.string z2] 120)).cell (p:=⟨w.heap.size+1+1+1,1,none⟩) lo9).trans bc
     refine wp_region_held_drew (S:=(fun w'=>w'.cell? ⟨w.heap.size,1,none⟩=some (.slice (some ⟨g,0,none⟩) x.ps.length x.c)∧w'.cell? ⟨g,k*3,none⟩=some (.int .i64 z0)∧w'.cell? ⟨g,k*3+1,none⟩=some (.string z1)∧w'.cell? ⟨g,k*3+2,none⟩=some (.string z2))) (by kernel_rfl) K0 (fun hHeld=>?_)
     refine tk 0 oT0 (.pointer (some ⟨w.heap.size+1+1+1,1,none⟩)) rfl (by kernel_rfl) (fun _ _ _ h=>h) (by rfl) (fun w hSw=>?_) hHeld ?_
     ·(try dsimp only at hSw)
      unfold oT0
      go_simp
     try simp only[oT0,Act.put,zA,zB,zC]
     refine tk 2 oT2 (.pointer (some ⟨w.heap.size,1,none⟩)) rfl (by kernel_rfl) (fun _ _ _ h=>h) (by rfl) (fun w hSw=>?_) hHeld ?_
     ·(try dsimp only at hSw)
      unfold oT2
      go_simp
     try simp only[oT2,Act.put,zA,zB,zC]
     refine tk 3 oT3 (.slice (some ⟨g,0,none⟩) x.ps.length x.c) rfl (by kernel_rfl) (fun _ _ _ h=>h) (by rfl) (fun w hSw=>?_) hHeld ?_
     ·(try dsimp only at hSw)
      unfold oT3
      go_simp
     try simp only[oT3,Act.put,zA,zB,zC]
     refine tk 4 oT4 (.int .i64 k) rfl (by kernel_rfl) (fun _ _ _ h=>h) (by rfl) (fun w hSw=>?_) hHeld ?_
     ·(try dsimp only at hSw)
      unfold oT4
      go_simp
     try simp only[oT4,Act.put,zA,zB,zC]
     refine tk 5 oT5 (.pointer (some ⟨g,k*3,none⟩)) rfl (by kernel_rfl) (fun _ _ _ h=>h) (by rfl) (fun w hSw=>?_) hHeld ?_
     ·(try dsimp only at hSw)
      unfold oT5
      go_simp
     try simp only[oT5,Act.put,zA,zB,zC]
     refine tk 6 oT6 (.agg #[.int .i64 z0,.string z1,.string z2]) rfl (by kernel_rfl) (fun _ _ _ h=>h) (by rfl) (fun w hSw=>?_) hHeld ?_
     ·(try dsimp only at hSw)
      unfold oT6
      go_simp
     try simp only[oT6,Act.put,zA,zB,zC]
     refine wpAnyH_ready (rs:=[1,7]) (by kernel_rfl) (by simp) ?_
     refine AllReadyH.cons (o:=oT1) rfl (fun K hK=>?_) (AllReadyH.cons (o:=oT7) rfl (fun K hK=>?_) AllReadyH.nil)
     ·unfold oT1
      go_simp
      refine hK.out _ _ K0 (fun hHeld=>?_)
      clear hK K
      try simp only[oT1,Act.put,zA,zB,zC]
      refine wpAnyH_ready (rs:=[7]) (by kernel_rfl) (by simp) ?_
      refine AllReadyH.cons (o:=oT7) rfl (fun K hK=>?_) AllReadyH.nil
      unfold oT7
      go_simp
      refine hK.out _ _ KB (fun hHeld=>?_)
      clear hK K
      try simp only[oT7,Act.put,zA,zB,zC]
      refine wpAnyH_ready (rs:=[8]) (by kernel_rfl) (by simp) ?_
      refine AllReadyH.cons (o:=oT8) rfl (fun K hK=>?_) AllReadyH.nil
      refine step_app (q2.drew.alloc (.cells #[.int .i64 z0,.string z1,.string z2] 120)) (by rfl) _ _ 50 120 (by rfl) (.agg #[.int .i64 0,.string ByteArray.empty,.string ByteArray.empty]) 3 40 Tryz.underlying50 HelpF14.info2 rfl (by decide) (by decide) W.heap.size (.slice a (m) c) (m) (flatF (L)) q2.drew.heap.size [.int .i64 z0,.string z1,.string z2] (by rfl) (by rfl) (row_step (W:=q2.drew) (zu PVD).ow (one_more q2.drew (.cells #[.int .i64 z0,.string z1,.string z2] 120))) rfl (litm q2.drew _ _ _ (by rfl)) (by simp[Value.oneCell']) (by omega) (Nat.le_trans (show W.heap.size≤q2.drew.heap.size from u3s) (by simp)) ?_
      intro g9 c9 u9 o9 gr9
      have BL:=(zu PVD).off
      have PA:=(zu PVD).app (p:=(z0,z1,z2)) hO ((Below.refl _ _).drew.alloc (Nat.le_refl _) (.cells #[.int .i64 z0,.string z1,.string z2] 120)) gr9 o9
      have bx9:=PA.1
      have bc9:=bx9.c1
      have fr9:=bx9.free 1
      have P9:=zh PA.2
      have us9:=gr9.size
      simp at us9
      have KC:u9.cell? ⟨w.heap.size,1,none⟩=some (.slice (some ⟨g,0,none⟩) x.ps.length x.c)∧u9.cell? ⟨g,k*3,none⟩=some (.int .i64 z0)∧u9.cell? ⟨g,k*3+1,none⟩=some (.string z1)∧u9.cell? ⟨g,k*3+2,none⟩=some (.string z2):=⟨gr9.cell KB.1 (fun e=>by have:=BL _ e.symm;simp only at this;omega),gr9.cell KB.2.1 (fun e=>by have:=BL _ e.symm;simp only at this;omega),gr9.cell KB.2.2.1 (fun e=>by have:=BL _ e.symm;simp only at this;omega),gr9.cell KB.2.2.2 (fun e=>by have:=BL _ e.symm;simp only at this;omega)⟩
      have SB:=bc_set1 bx9 (.slice (some ⟨g9,0,none⟩) (m+1) c9)
      have KD:(u9.setCell ⟨w.heap.size+1+1+1,1,none⟩ (.slice (some ⟨g9,0,none⟩) (m+1) c9)).cell? ⟨w.heap.size,1,none⟩=some (.slice (some ⟨g,0,none⟩) x.ps.length x.c)∧(u9.setCell ⟨w.heap.size+1+1+1,1,none⟩ (.slice (some ⟨g9,0,none⟩) (m+1) c9)).cell? ⟨g,k*3,none⟩=some (.int .i64 z0)∧(u9.setCell ⟨w.heap.size+1+1+1,1,none⟩ (.slice (some ⟨g9,0,none⟩) (m+1) c9)).cell? ⟨g,k*3+1,none⟩=some (.string z1)∧(u9.setCell ⟨w.heap.size+1+1+1,1,none⟩ (.slice (some ⟨g9,0,none⟩) (m+1) c9)).cell? ⟨g,k*3+2,none⟩=some (.string z2):=⟨(kcell SB.2 (1) (show w.heap.size<u9.heap.size from by omega) (show w.heap.size≠w.heap.size+1+1+1 from by omega)).trans KC.1,(kcell SB.2 (k*3) (show g<u9.heap.size from by omega) (show g≠w.heap.size+1+1+1 from by omega)).trans KC.2.1,(kcell SB.2 (k*3+1) (show g<u9.heap.size from by omega) (show g≠w.heap.size+1+1+1 from by omega)).trans KC.2.2.1,(kcell SB.2 (k*3+2) (show g<u9.heap.size from by omega) (show g≠w.heap.size+1+1+1 from by omega)).trans KC.2.2.2⟩
      clear o9 gr9 PA SB bx9 BL
      refine hK.out _ _ KC (fun hHeld=>?_)
      clear hK K
      try simp only[oT8,Act.put,zA,zB,zC]
      refine tk 9 oT9 (.pointer (some ⟨w.heap.size+1+1+1,1,none⟩)) rfl (by kernel_rfl) (fun _ _ _ h=>h) (by rfl) (fun w hSw=>?_) hHeld ?_
      ·(try dsimp only at hSw)
       unfold oT9
       go_simp
      try simp only[oT9,Act.put,zA,zB,zC]
      refine wpAnyH_ready (rs:=[10]) (by kernel_rfl) (by simp) ?_
      refine AllReadyH.cons (o:=oT10) rfl (fun K hK=>?_) AllReadyH.nil
      unfold oT10
      go_simp
      refine hK.out _ _ KD (fun hHeld=>?_)
      clear hK K
      try simp only[oT10,Act.put,zA,zB,zC]
      refine wpAnyH_done (by kernel_rfl) ?_ _
      clear K0 KB KC KD bc bcD bcA bc9 fr9
      go_wp2
      go_roundw
      case rel=>exact⟨k+1,m+1,c9,some ⟨g9,0,none⟩,L++[(z0,z1,z2)],false,rfl,by go_num,by omega,by omega,NX,P9⟩
      case measure=>simp[intOf];omega
     ·unfold oT7
      go_simp
      refine hK.out _ _ KB (fun hHeld=>?_)
      clear hK K
      try simp only[oT7,Act.put,zA,zB,zC]
      refine wpAnyH_ready (rs:=[1]) (by kernel_rfl) (by simp) ?_
      refine AllReadyH.cons (o:=oT1) rfl (fun K hK=>?_) AllReadyH.nil
      unfold oT1
      go_simp
      refine hK.out _ _ KB (fun hHeld=>?_)
      clear hK K
      try simp only[oT1,Act.put,zA,zB,zC]
      refine wpAnyH_ready (rs:=[8]) (by kernel_rfl) (by simp) ?_
      refine AllReadyH.cons (o:=oT8) rfl (fun K hK=>?_) AllReadyH.nil
      refine step_app (q2.drew.alloc (.cells #[.int .i64 z0,.string z1,.string z2] 120)) (by rfl) _ _ 50 120 (by rfl) (.agg #[.int .i64 0,.string ByteArray.empty,.string ByteArray.empty]) 3 40 Tryz.underlying50 HelpF14.info2 rfl (by decide) (by decide) W.heap.size (.slice a (m) c) (m) (flatF (L)) q2.drew.heap.size [.int .i64 z0,.string z1,.string z2] (by rfl) (by rfl) (row_step (W:=q2.drew) (zu PVD).ow (one_more q2.drew (.cells #[.int .i64 z0,.string z1,.string z2] 120))) rfl (litm q2.drew _ _ _ (by rfl)) (by simp[Value.oneCell']) (by omega) (Nat.le_trans (show W.heap.size≤q2.drew.heap.size from u3s) (by simp)) ?_
      intro g9 c9 u9 o9 gr9
      have BL:=(zu PVD).off
      have PA:=(zu PVD).app (p:=(z0,z1,z2)) hO ((Below.refl _ _).drew.alloc (Nat.le_refl _) (.cells #[.int .i64 z0,.string z1,.string z2] 120)) gr9 o9
      have bx9:=PA.1
      have bc9:=bx9.c1
      have fr9:=bx9.free 1
      have P9:=zh PA.2
      have us9:=gr9.size
      simp at us9
      have KC:u9.cell? ⟨w.heap.size,1,none⟩=some (.slice (some ⟨g,0,none⟩) x.ps.length x.c)∧u9.cell? ⟨g,k*3,none⟩=some (.int .i64 z0)∧u9.cell? ⟨g,k*3+1,none⟩=some (.string z1)∧u9.cell? ⟨g,k*3+2,none⟩=some (.string z2):=⟨gr9.cell KB.1 (fun e=>by have:=BL _ e.symm;simp only at this;omega),gr9.cell KB.2.1 (fun e=>by have:=BL _ e.symm;simp only at this;omega),gr9.cell KB.2.2.1 (fun e=>by have:=BL _ e.symm;simp only at this;omega),gr9.cell KB.2.2.2 (fun e=>by have:=BL _ e.symm;simp only at this;omega)⟩
      have SB:=bc_set1 bx9 (.slice (some ⟨g9,0,none⟩) (m+1) c9)
      have KD:(u9.setCell ⟨w.heap.size+1+1+1,1,none⟩ (.slice (some ⟨g9,0,none⟩) (m+1) c9)).cell? ⟨w.heap.size,1,none⟩=some (.slice (some ⟨g,0,none⟩) x.ps.length x.c)∧(u9.setCell ⟨w.heap.size+1+1+1,1,none⟩ (.slice (some ⟨g9,0,none⟩) (m+1) c9)).cell? ⟨g,k*3,none⟩=some (.int .i64 z0)∧(u9.setCell ⟨w.heap.size+1+1+1,1,none⟩ (.slice (some ⟨g9,0,none⟩) (m+1) c9)).cell? ⟨g,k*3+1,none⟩=some (.string z1)∧(u9.setCell ⟨w.heap.size+1+1+1,1,none⟩ (.slice (some ⟨g9,0,none⟩) (m+1) c9)).cell? ⟨g,k*3+2,none⟩=some (.string z2):=⟨(kcell SB.2 (1) (show w.heap.size<u9.heap.size from by omega) (show w.heap.size≠w.heap.size+1+1+1 from by omega)).trans KC.1,(kcell SB.2 (k*3) (show g<u9.heap.size from by omega) (show g≠w.heap.size+1+1+1 from by omega)).trans KC.2.1,(kcell SB.2 (k*3+1) (show g<u9.heap.size from by omega) (show g≠w.heap.size+1+1+1 from by omega)).trans KC.2.2.1,(kcell SB.2 (k*3+2) (show g<u9.heap.size from by omega) (show g≠w.heap.size+1+1+1 from by omega)).trans KC.2.2.2⟩
      clear o9 gr9 PA SB bx9 BL
      refine hK.out _ _ KC (fun hHeld=>?_)
      clear hK K
      try simp only[oT8,Act.put,zA,zB,zC]
      refine tk 9 oT9 (.pointer (some ⟨w.heap.size+1+1+1,1,none⟩)) rfl (by kernel_rfl) (fun _ _ _ h=>h) (by rfl) (fun w hSw=>?_) hHeld ?_
      ·(try dsimp only at hSw)
       unfold oT9
       go_simp
      try simp only[oT9,Act.put,zA,zB,zC]
      refine wpAnyH_ready (rs:=[10]) (by kernel_rfl) (by simp) ?_
      refine AllReadyH.cons (o:=oT10) rfl (fun K hK=>?_) AllReadyH.nil
      unfold oT10
      go_simp
      refine hK.out _ _ KD (fun hHeld=>?_)
      clear hK K
      try simp only[oT10,Act.put,zA,zB,zC]
      refine wpAnyH_done (by kernel_rfl) ?_ _
      clear K0 KB KC KD bc bcD bcA bc9 fr9
      go_wp2
      go_roundw
      case rel=>exact⟨k+1,m+1,c9,some ⟨g9,0,none⟩,L++[(z0,z1,z2)],false,rfl,by go_num,by omega,by omega,NX,P9⟩
      case measure=>simp[intOf];omega
   ·have PBV:True:=trivial
    have QF:True:=trivial
    by_cases qe:z0=f0
    ·have K6:wr.cell? ⟨w.heap.size,1,none⟩=some (.slice (some ⟨g,0,none⟩) x.ps.length x.c)∧wr.cell? ⟨g,k*3,none⟩=some (.int .i64 z0)∧wr.cell? ⟨w.heap.size+1,0,none⟩=some (.int .i64 f0):=⟨u1c,u10,u1f⟩
     go_wp2_with fail
     refine wp_region_held_drew (S:=(fun w'=>w'.cell? ⟨w.heap.size,1,none⟩=some (.slice (some ⟨g,0,none⟩) x.ps.length x.c)∧w'.cell? ⟨g,k*3,none⟩=some (.int .i64 z0)∧w'.cell? ⟨w.heap.size+1,0,none⟩=some (.int .i64 f0))) (by kernel_rfl) K6 (fun hHeld=>?_)
     refine tk 0 oS0 (.bool true) rfl (by kernel_rfl) (fun _ _ _ h=>h) (by rfl) (fun w hSw=>?_) hHeld ?_
     ·(try dsimp only at hSw)
      unfold oS0
      go_simp
     try simp only[oS0,Act.put,zA,zB,zC]
     refine tk 1 oS1 (.bool false) rfl (by kernel_rfl) (fun _ _ _ h=>h) (by rfl) (fun w hSw=>?_) hHeld ?_
     ·(try dsimp only at hSw)
      unfold oS1
      go_simp
     try simp only[oS1,Act.put,zA,zB,zC]
     refine tk 2 oS2 (.bool false) rfl (by kernel_rfl) (fun _ _ _ h=>h) (by rfl) (fun w hSw=>?_) hHeld ?_
     ·(try dsimp only at hSw)
      unfold oS2
      go_simp
     try simp only[oS2,Act.put,zA,zB,zC]
     refine sk 3 oS3 rfl (by kernel_rfl) (fun _ _ _ h=>h) (by rfl) hHeld ?_
     try simp only[oS3,Act.put,zA,zB,zC]
     refine sk 4 oS4 rfl (by kernel_rfl) (fun _ _ _ h=>h) (by rfl) hHeld ?_
     try simp only[oS4,Act.put,zA,zB,zC]
     refine sk 5 oS5 rfl (by kernel_rfl) (fun _ _ _ h=>h) (by rfl) hHeld ?_
     try simp only[oS5,Act.put,zA,zB,zC]
     refine sk 6 oS6 rfl (by kernel_rfl) (fun _ _ _ h=>h) (by rfl) hHeld ?_
     try simp only[oS6,Act.put,zA,zB,zC]
     refine sk 7 oS7 rfl (by kernel_rfl) (fun _ _ _ h=>h) (by rfl) hHeld ?_
     try simp only[oS7,Act.put,zA,zB,zC]
     refine sk 8 oS8 rfl (by kernel_rfl) (fun _ _ _ h=>h) (by rfl) hHeld ?_
     try simp only[oS8,Act.put,zA,zB,zC]
     refine sk 9 oS9 rfl (by kernel_rfl) (fun _ _ _ h=>h) (by rfl) hHeld ?_
     try simp only[oS9,Act.put,zA,zB,zC]
     refine sk 10 oS10 rfl (by kernel_rfl) (fun _ _ _ h=>h) (by rfl) hHeld ?_
     try simp only[oS10,Act.put,zA,zB,zC]
     refine sk 11 oS11 rfl (by kernel_rfl) (fun _ _ _ h=>h) (by rfl) hHeld ?_
     try simp only[oS11,Act.put,zA,zB,zC]
     refine tk 12 oS12 (.bool false) rfl (by kernel_rfl) (fun _ _ _ h=>h) (by rfl) (fun w hSw=>?_) hHeld ?_
     ·(try dsimp only at hSw)
      unfold oS12
      go_simp
     try simp only[oS12,Act.put,zA,zB,zC]
     refine wpAnyH_done (by kernel_rfl) ?_ _
     have PV:=zh (zu HPt).drew
     go_wp2_with fail
     generalize wr.drew=v1 at *
     have NX:=zh (show putN x.ps (f0,f1,f2) (k+1)=(L,true) from by rw[putN_succ (zu HP),zu EP];simp[PBV,qe,QF])
     have hq:(z0 !=f0)=false:=by simp[qe]
     clear qe
     have u2c:=(kcell (zu PV).gr 1 wl0 (by omega)).trans (zu HC)
     have u20:=(kcell (zu PV).gr (k*3) lg gn).trans (zu D0)
     have u21:=(kcell (zu PV).gr (k*3+1) lg gn).trans (zu D1)
     have u22:=(kcell (zu PV).gr (k*3+2) lg gn).trans (zu D2)
     have u2f:=(kcell (zu PV).gr 0 wl1 (by omega)).trans (zu F0)
     have u2g:=(kcell (zu PV).gr 1 wl1 (by omega)).trans (zu F1)
     have u2h:=(kcell (zu PV).gr 2 wl1 (by omega)).trans (zu F2)
     have u2s:=(zu PV).gr.size
     have K2:v1.cell? ⟨w.heap.size,1,none⟩=some (.slice (some ⟨g,0,none⟩) x.ps.length x.c)∧v1.cell? ⟨g,k*3,none⟩=some (.int .i64 z0)∧v1.cell? ⟨w.heap.size+1,0,none⟩=some (.int .i64 f0):=⟨u2c,u20,u2f⟩
     refine wp_region_held_drew (S:=(fun w'=>w'.cell? ⟨w.heap.size,1,none⟩=some (.slice (some ⟨g,0,none⟩) x.ps.length x.c)∧w'.cell? ⟨g,k*3,none⟩=some (.int .i64 z0)∧w'.cell? ⟨w.heap.size+1,0,none⟩=some (.int .i64 f0))) (by kernel_rfl) K2 (fun hHeld=>?_)
     refine tk 0 oN0 (.pointer (some ⟨w.heap.size,1,none⟩)) rfl (by kernel_rfl) (fun _ _ _ h=>h) (by rfl) (fun w hSw=>?_) hHeld ?_
     ·(try dsimp only at hSw)
      unfold oN0
      go_simp
     try simp only[oN0,Act.put,zA,zB,zC]
     refine tk 1 oN1 (.slice (some ⟨g,0,none⟩) x.ps.length x.c) rfl (by kernel_rfl) (fun _ _ _ h=>h) (by rfl) (fun w hSw=>?_) hHeld ?_
     ·(try dsimp only at hSw)
      unfold oN1
      go_simp
     try simp only[oN1,Act.put,zA,zB,zC]
     refine tk 2 oN2 (.int .i64 k) rfl (by kernel_rfl) (fun _ _ _ h=>h) (by rfl) (fun w hSw=>?_) hHeld ?_
     ·(try dsimp only at hSw)
      unfold oN2
      go_simp
     try simp only[oN2,Act.put,zA,zB,zC]
     refine tk 3 oN3 (.pointer (some ⟨g,k*3,none⟩)) rfl (by kernel_rfl) (fun _ _ _ h=>h) (by rfl) (fun w hSw=>?_) hHeld ?_
     ·(try dsimp only at hSw)
      unfold oN3
      go_simp
     try simp only[oN3,Act.put,zA,zB,zC]
     refine tk 4 oN4 (.pointer (some ⟨g,k*3,none⟩)) rfl (by kernel_rfl) (fun _ _ _ h=>h) (by rfl) (fun w hSw=>?_) hHeld ?_
     ·(try dsimp only at hSw)
      unfold oN4
      go_simp
     try simp only[oN4,Act.put,zA,zB,zC]
     refine tk 5 oN5 (.int .i64 z0) rfl (by kernel_rfl) (fun _ _ _ h=>h) (by rfl) (fun w hSw=>?_) hHeld ?_
     ·(try dsimp only at hSw)
      unfold oN5
      go_simp
     try simp only[oN5,Act.put,zA,zB,zC]
     refine tk 6 oN6 (.pointer (some ⟨w.heap.size+1,0,none⟩)) rfl (by kernel_rfl) (fun _ _ _ h=>h) (by rfl) (fun w hSw=>?_) hHeld ?_
     ·(try dsimp only at hSw)
      unfold oN6
      go_simp
     try simp only[oN6,Act.put,zA,zB,zC]
     refine tk 7 oN7 (.int .i64 f0) rfl (by kernel_rfl) (fun _ _ _ h=>h) (by rfl) (fun w hSw=>?_) hHeld ?_
     ·(try dsimp only at hSw)
      unfold oN7
      go_simp
     try simp only[oN7,Act.put,zA,zB,zC]
     refine tk 8 oN8 (.bool false) rfl (by kernel_rfl) (fun _ _ _ h=>h) (by rfl) (fun w hSw=>?_) hHeld ?_
     ·(try dsimp only at hSw)
      unfold oN8
      go_simp
     try simp only[oN8,Act.put,zA,zB,zC]
     refine wpAnyH_done (by kernel_rfl) ?_ _
     have PVD:=zh (zu PV).drew
     go_wp2
     go_roundw
     case rel=>exact⟨k+1,m,c,a,L,true,rfl,by go_num,by omega,by omega,NX,PVD⟩
     case measure=>simp[intOf];omega
    ·have K6:wr.cell? ⟨w.heap.size,1,none⟩=some (.slice (some ⟨g,0,none⟩) x.ps.length x.c)∧wr.cell? ⟨g,k*3,none⟩=some (.int .i64 z0)∧wr.cell? ⟨w.heap.size+1,0,none⟩=some (.int .i64 f0):=⟨u1c,u10,u1f⟩
     go_wp2_with fail
     refine wp_region_held_drew (S:=(fun w'=>w'.cell? ⟨w.heap.size,1,none⟩=some (.slice (some ⟨g,0,none⟩) x.ps.length x.c)∧w'.cell? ⟨g,k*3,none⟩=some (.int .i64 z0)∧w'.cell? ⟨w.heap.size+1,0,none⟩=some (.int .i64 f0))) (by kernel_rfl) K6 (fun hHeld=>?_)
     refine tk 0 oS0 (.bool true) rfl (by kernel_rfl) (fun _ _ _ h=>h) (by rfl) (fun w hSw=>?_) hHeld ?_
     ·(try dsimp only at hSw)
      unfold oS0
      go_simp
     try simp only[oS0,Act.put,zA,zB,zC]
     refine tk 1 oS1 (.bool false) rfl (by kernel_rfl) (fun _ _ _ h=>h) (by rfl) (fun w hSw=>?_) hHeld ?_
     ·(try dsimp only at hSw)
      unfold oS1
      go_simp
     try simp only[oS1,Act.put,zA,zB,zC]
     refine tk 2 oS2 (.bool false) rfl (by kernel_rfl) (fun _ _ _ h=>h) (by rfl) (fun w hSw=>?_) hHeld ?_
     ·(try dsimp only at hSw)
      unfold oS2
      go_simp
     try simp only[oS2,Act.put,zA,zB,zC]
     refine sk 3 oS3 rfl (by kernel_rfl) (fun _ _ _ h=>h) (by rfl) hHeld ?_
     try simp only[oS3,Act.put,zA,zB,zC]
     refine sk 4 oS4 rfl (by kernel_rfl) (fun _ _ _ h=>h) (by rfl) hHeld ?_
     try simp only[oS4,Act.put,zA,zB,zC]
     refine sk 5 oS5 rfl (by kernel_rfl) (fun _ _ _ h=>h) (by rfl) hHeld ?_
     try simp only[oS5,Act.put,zA,zB,zC]
     refine sk 6 oS6 rfl (by kernel_rfl) (fun _ _ _ h=>h) (by rfl) hHeld ?_
     try simp only[oS6,Act.put,zA,zB,zC]
     refine sk 7 oS7 rfl (by kernel_rfl) (fun _ _ _ h=>h) (by rfl) hHeld ?_
     try simp only[oS7,Act.put,zA,zB,zC]
     refine sk 8 oS8 rfl (by kernel_rfl) (fun _ _ _ h=>h) (by rfl) hHeld ?_
     try simp only[oS8,Act.put,zA,zB,zC]
     refine sk 9 oS9 rfl (by kernel_rfl) (fun _ _ _ h=>h) (by rfl) hHeld ?_
     try simp only[oS9,Act.put,zA,zB,zC]
     refine sk 10 oS10 rfl (by kernel_rfl) (fun _ _ _ h=>h) (by rfl) hHeld ?_
     try simp only[oS10,Act.put,zA,zB,zC]
     refine sk 11 oS11 rfl (by kernel_rfl) (fun _ _ _ h=>h) (by rfl) hHeld ?_
     try simp only[oS11,Act.put,zA,zB,zC]
     refine tk 12 oS12 (.bool false) rfl (by kernel_rfl) (fun _ _ _ h=>h) (by rfl) (fun w hSw=>?_) hHeld ?_
     ·(try dsimp only at hSw)
      unfold oS12
      go_simp
     try simp only[oS12,Act.put,zA,zB,zC]
     refine wpAnyH_done (by kernel_rfl) ?_ _
     have PV:=zh (zu HPt).drew
     go_wp2_with fail
     generalize wr.drew=v1 at *
     have NX:=zh (show putN x.ps (f0,f1,f2) (k+1)=(L++[(z0,z1,z2)],true) from by rw[putN_succ (zu HP),zu EP];simp[PBV,qe,QF])
     have hq:(z0 !=f0)=true:=by simp[qe]
     clear qe
     have u2c:=(kcell (zu PV).gr 1 wl0 (by omega)).trans (zu HC)
     have u20:=(kcell (zu PV).gr (k*3) lg gn).trans (zu D0)
     have u21:=(kcell (zu PV).gr (k*3+1) lg gn).trans (zu D1)
     have u22:=(kcell (zu PV).gr (k*3+2) lg gn).trans (zu D2)
     have u2f:=(kcell (zu PV).gr 0 wl1 (by omega)).trans (zu F0)
     have u2g:=(kcell (zu PV).gr 1 wl1 (by omega)).trans (zu F1)
     have u2h:=(kcell (zu PV).gr 2 wl1 (by omega)).trans (zu F2)
     have u2s:=(zu PV).gr.size
     have K2:v1.cell? ⟨w.heap.size,1,none⟩=some (.slice (some ⟨g,0,none⟩) x.ps.length x.c)∧v1.cell? ⟨g,k*3,none⟩=some (.int .i64 z0)∧v1.cell? ⟨w.heap.size+1,0,none⟩=some (.int .i64 f0):=⟨u2c,u20,u2f⟩
     refine wp_region_held_drew (S:=(fun w'=>w'.cell? ⟨w.heap.size,1,none⟩=some (.slice (some ⟨g,0,none⟩) x.ps.length x.c)∧w'.cell? ⟨g,k*3,none⟩=some (.int .i64 z0)∧w'.cell? ⟨w.heap.size+1,0,none⟩=some (.int .i64 f0))) (by kernel_rfl) K2 (fun hHeld=>?_)
     refine tk 0 oN0 (.pointer (some ⟨w.heap.size,1,none⟩)) rfl (by kernel_rfl) (fun _ _ _ h=>h) (by rfl) (fun w hSw=>?_) hHeld ?_
     ·(try dsimp only at hSw)
      unfold oN0
      go_simp
     try simp only[oN0,Act.put,zA,zB,zC]
     refine tk 1 oN1 (.slice (some ⟨g,0,none⟩) x.ps.length x.c) rfl (by kernel_rfl) (fun _ _ _ h=>h) (by rfl) (fun w hSw=>?_) hHeld ?_
     ·(try dsimp only at hSw)
      unfold oN1
      go_simp
     try simp only[oN1,Act.put,zA,zB,zC]
     refine tk 2 oN2 (.int .i64 k) rfl (by kernel_rfl) (fun _ _ _ h=>h) (by rfl) (fun w hSw=>?_) hHeld ?_
     ·(try dsimp only at hSw)
      unfold oN2
      go_simp
     try simp only[oN2,Act.put,zA,zB,zC]
     refine tk 3 oN3 (.pointer (some ⟨g,k*3,none⟩)) rfl (by kernel_rfl) (fun _ _ _ h=>h) (by rfl) (fun w hSw=>?_) hHeld ?_
     ·(try dsimp only at hSw)
      unfold oN3
      go_simp
     try simp only[oN3,Act.put,zA,zB,zC]
     refine tk 4 oN4 (.pointer (some ⟨g,k*3,none⟩)) rfl (by kernel_rfl) (fun _ _ _ h=>h) (by rfl) (fun w hSw=>?_) hHeld ?_
     ·(try dsimp only at hSw)
      unfold oN4
      go_simp
     try simp only[oN4,Act.put,zA,zB,zC]
     refine tk 5 oN5 (.int .i64 z0) rfl (by kernel_rfl) (fun _ _ _ h=>h) (by rfl) (fun w hSw=>?_) hHeld ?_
     ·(try dsimp only at hSw)
      unfold oN5
      go_simp
     try simp only[oN5,Act.put,zA,zB,zC]
     refine tk 6 oN6 (.pointer (some ⟨w.heap.size+1,0,none⟩)) rfl (by kernel_rfl) (fun _ _ _ h=>h) (by rfl) (fun w hSw=>?_) hHeld ?_
     ·(try dsimp only at hSw)
      unfold oN6
      go_simp
     try simp only[oN6,Act.put,zA,zB,zC]
     refine tk 7 oN7 (.int .i64 f0) rfl (by kernel_rfl) (fun _ _ _ h=>h) (by rfl) (fun w hSw=>?_) hHeld ?_
     ·(try dsimp only at hSw)
      unfold oN7
      go_simp
     try simp only[oN7,Act.put,zA,zB,zC]
     refine tk 8 oN8 (.bool true) rfl (by kernel_rfl) (fun _ _ _ h=>h) (by rfl) (fun w hSw=>?_) hHeld ?_
     ·(try dsimp only at hSw)
      unfold oN8
      go_simp
     try simp only[oN8,Act.put,zA,zB,zC]
     refine wpAnyH_done (by kernel_rfl) ?_ _
     have PVD:=zh (zu PV).drew
     go_wp2_with fail
     generalize v1.drew=q2 at *
     have u3c:=(kcell (zu PVD).gr 1 wl0 (by omega)).trans (zu HC)
     have u30:=(kcell (zu PVD).gr (k*3) lg gn).trans (zu D0)
     have u31:=(kcell (zu PVD).gr (k*3+1) lg gn).trans (zu D1)
     have u32:=(kcell (zu PVD).gr (k*3+2) lg gn).trans (zu D2)
     have u3f:=(kcell (zu PVD).gr 0 wl1 (by omega)).trans (zu F0)
     have u3g:=(kcell (zu PVD).gr 1 wl1 (by omega)).trans (zu F1)
     have u3h:=(kcell (zu PVD).gr 2 wl1 (by omega)).trans (zu F2)
     have u3s:=(zu PVD).gr.size
     have K0:q2.cell? ⟨w.heap.size,1,none⟩=some (.slice (some ⟨g,0,none⟩) x.ps.length x.c)∧q2.cell? ⟨g,k*3,none⟩=some (.int .i64 z0)∧q2.cell? ⟨g,k*3+1,none⟩=some (.string z1)∧q2.cell? ⟨g,k*3+2,none⟩=some (.string z2):=⟨u3c,u30,u31,u32⟩
     have KB:(q2.drew.alloc (.cells #[.int .i64 z0,.string z1,.string z2] 120)).cell? ⟨w.heap.size,1,none⟩=some (.slice (some ⟨g,0,none⟩) x.ps.length x.c)∧(q2.drew.alloc (.cells #[.int .i64 z0,.string z1,.string z2] 120)).cell? ⟨g,k*3,none⟩=some (.int .i64 z0)∧(q2.drew.alloc (.cells #[.int .i64 z0,.string z1,.string z2] 120)).cell? ⟨g,k*3+1,none⟩=some (.string z1)∧(q2.drew.alloc (.cells #[.int .i64 z0,.string z1,.string z2] 120)).cell? ⟨g,k*3+2,none⟩=some (.string z2):=⟨((one_more q2.drew (.cells #[.int .i64 z0,.string z1,.string z2] 120)).cell (p:=⟨w.heap.size,1,none⟩) (show w.heap.size<q2.heap.size from by omega)).trans u3c,((one_more q2.drew (.cells #[.int .i64 z0,.string z1,.string z2] 120)).cell (p:=⟨g,k*3,none⟩) (show g<q2.heap.size from by omega)).trans u30,((one_more q2.drew (.cells #[.int .i64 z0,.string z1,.string z2] 120)).cell (p:=⟨g,k*3+1,none⟩) (show g<q2.heap.size from by omega)).trans u31,((one_more q2.drew (.cells #[.int .i64 z0,.string z1,.string z2] 120)).cell (p:=⟨g,k*3+2,none⟩) (show g<q2.heap.size from by omega)).trans u32⟩
     have bc:=(zu PVD).bx.c1
     have lo9:=(zu PVD).bx.lt.2
     have bcD:q2.drew.cell? ⟨w.heap.size+1+1+1,1,none⟩=some (.slice a (m) c):=bc
     have bcA:(q2.alloc (.cells #[.int .i64 z0,.string z1,.string z2] 120)).cell? ⟨w.heap.size+1+1+1,1,none⟩=some (.slice a (m) c):=((one_more q2.drew (.cells #[.int .i64 z0,.string z1,.string z2] 120)).cell (p:=⟨w.heap.size+1+1+1,1,none⟩) lo9).trans bc
     refine wp_region_held_drew (S:=(fun w'=>w'.cell? ⟨w.heap.size,1,none⟩=some (.slice (some ⟨g,0,none⟩) x.ps.length x.c)∧w'.cell? ⟨g,k*3,none⟩=some (.int .i64 z0)∧w'.cell? ⟨g,k*3+1,none⟩=some (.string z1)∧w'.cell? ⟨g,k*3+2,none⟩=some (.string z2))) (by kernel_rfl) K0 (fun hHeld=>?_)
     refine tk 0 oT0 (.pointer (some ⟨w.heap.size+1+1+1,1,none⟩)) rfl (by kernel_rfl) (fun _ _ _ h=>h) (by rfl) (fun w hSw=>?_) hHeld ?_
     ·(try dsimp only at hSw)
      unfold oT0
      go_simp
     try simp only[oT0,Act.put,zA,zB,zC]
     refine tk 2 oT2 (.pointer (some ⟨w.heap.size,1,none⟩)) rfl (by kernel_rfl) (fun _ _ _ h=>h) (by rfl) (fun w hSw=>?_) hHeld ?_
     ·(try dsimp only at hSw)
      unfold oT2
      go_simp
     try simp only[oT2,Act.put,zA,zB,zC]
     refine tk 3 oT3 (.slice (some ⟨g,0,none⟩) x.ps.length x.c) rfl (by kernel_rfl) (fun _ _ _ h=>h) (by rfl) (fun w hSw=>?_) hHeld ?_
     ·(try dsimp only at hSw)
      unfold oT3
      go_simp
     try simp only[oT3,Act.put,zA,zB,zC]
     refine tk 4 oT4 (.int .i64 k) rfl (by kernel_rfl) (fun _ _ _ h=>h) (by rfl) (fun w hSw=>?_) hHeld ?_
     ·(try dsimp only at hSw)
      unfold oT4
      go_simp
     try simp only[oT4,Act.put,zA,zB,zC]
     refine tk 5 oT5 (.pointer (some ⟨g,k*3,none⟩)) rfl (by kernel_rfl) (fun _ _ _ h=>h) (by rfl) (fun w hSw=>?_) hHeld ?_
     ·(try dsimp only at hSw)
      unfold oT5
      go_simp
     try simp only[oT5,Act.put,zA,zB,zC]
     refine tk 6 oT6 (.agg #[.int .i64 z0,.string z1,.string z2]) rfl (by kernel_rfl) (fun _ _ _ h=>h) (by rfl) (fun w hSw=>?_) hHeld ?_
     ·(try dsimp only at hSw)
      unfold oT6
      go_simp
     try simp only[oT6,Act.put,zA,zB,zC]
     refine wpAnyH_ready (rs:=[1,7]) (by kernel_rfl) (by simp) ?_
     refine AllReadyH.cons (o:=oT1) rfl (fun K hK=>?_) (AllReadyH.cons (o:=oT7) rfl (fun K hK=>?_) AllReadyH.nil)
     ·unfold oT1
      go_simp
      refine hK.out _ _ K0 (fun hHeld=>?_)
      clear hK K
      try simp only[oT1,Act.put,zA,zB,zC]
      refine wpAnyH_ready (rs:=[7]) (by kernel_rfl) (by simp) ?_
      refine AllReadyH.cons (o:=oT7) rfl (fun K hK=>?_) AllReadyH.nil
      unfold oT7
      go_simp
      refine hK.out _ _ KB (fun hHeld=>?_)
      clear hK K
      try simp only[oT7,Act.put,zA,zB,zC]
      refine wpAnyH_ready (rs:=[8]) (by kernel_rfl) (by simp) ?_
      refine AllReadyH.cons (o:=oT8) rfl (fun K hK=>?_) AllReadyH.nil
      refine step_app (q2.drew.alloc (.cells #[.int .i64 z0,.string z1,.string z2] 120)) (by rfl) _ _ 50 120 (by rfl) (.agg #[.int .i64 0,.string ByteArray.empty,.string ByteArray.empty]) 3 40 Tryz.underlying50 HelpF14.info2 rfl (by decide) (by decide) W.heap.size (.slice a (m) c) (m) (flatF (L)) q2.drew.heap.size [.int .i64 z0,.string z1,.string z2] (by rfl) (by rfl) (row_step (W:=q2.drew) (zu PVD).ow (one_more q2.drew (.cells #[.int .i64 z0,.string z1,.string z2] 120))) rfl (litm q2.drew _ _ _ (by rfl)) (by simp[Value.oneCell']) (by omega) (Nat.le_trans (show W.heap.size≤q2.drew.heap.size from u3s) (by simp)) ?_
      intro g9 c9 u9 o9 gr9
      have BL:=(zu PVD).off
      have PA:=(zu PVD).app (p:=(z0,z1,z2)) hO ((Below.refl _ _).drew.alloc (Nat.le_refl _) (.cells #[.int .i64 z0,.string z1,.string z2] 120)) gr9 o9
      have bx9:=PA.1
      have bc9:=bx9.c1
      have fr9:=bx9.free 1
      have P9:=zh PA.2
      have us9:=gr9.size
      simp at us9
      have KC:u9.cell? ⟨w.heap.size,1,none⟩=some (.slice (some ⟨g,0,none⟩) x.ps.length x.c)∧u9.cell? ⟨g,k*3,none⟩=some (.int .i64 z0)∧u9.cell? ⟨g,k*3+1,none⟩=some (.string z1)∧u9.cell? ⟨g,k*3+2,none⟩=some (.string z2):=⟨gr9.cell KB.1 (fun e=>by have:=BL _ e.symm;simp only at this;omega),gr9.cell KB.2.1 (fun e=>by have:=BL _ e.symm;simp only at this;omega),gr9.cell KB.2.2.1 (fun e=>by have:=BL _ e.symm;simp only at this;omega),gr9.cell KB.2.2.2 (fun e=>by have:=BL _ e.symm;simp only at this;omega)⟩
      have SB:=bc_set1 bx9 (.slice (some ⟨g9,0,none⟩) (m+1) c9)
      have KD:(u9.setCell ⟨w.heap.size+1+1+1,1,none⟩ (.slice (some ⟨g9,0,none⟩) (m+1) c9)).cell? ⟨w.heap.size,1,none⟩=some (.slice (some ⟨g,0,none⟩) x.ps.length x.c)∧(u9.setCell ⟨w.heap.size+1+1+1,1,none⟩ (.slice (some ⟨g9,0,none⟩) (m+1) c9)).cell? ⟨g,k*3,none⟩=some (.int .i64 z0)∧(u9.setCell ⟨w.heap.size+1+1+1,1,none⟩ (.slice (some ⟨g9,0,none⟩) (m+1) c9)).cell? ⟨g,k*3+1,none⟩=some (.string z1)∧(u9.setCell ⟨w.heap.size+1+1+1,1,none⟩ (.slice (some ⟨g9,0,none⟩) (m+1) c9)).cell? ⟨g,k*3+2,none⟩=some (.string z2):=⟨(kcell SB.2 (1) (show w.heap.size<u9.heap.size from by omega) (show w.heap.size≠w.heap.size+1+1+1 from by omega)).trans KC.1,(kcell SB.2 (k*3) (show g<u9.heap.size from by omega) (show g≠w.heap.size+1+1+1 from by omega)).trans KC.2.1,(kcell SB.2 (k*3+1) (show g<u9.heap.size from by omega) (show g≠w.heap.size+1+1+1 from by omega)).trans KC.2.2.1,(kcell SB.2 (k*3+2) (show g<u9.heap.size from by omega) (show g≠w.heap.size+1+1+1 from by omega)).trans KC.2.2.2⟩
      clear o9 gr9 PA SB bx9 BL
      refine hK.out _ _ KC (fun hHeld=>?_)
      clear hK K
      try simp only[oT8,Act.put,zA,zB,zC]
      refine tk 9 oT9 (.pointer (some ⟨w.heap.size+1+1+1,1,none⟩)) rfl (by kernel_rfl) (fun _ _ _ h=>h) (by rfl) (fun w hSw=>?_) hHeld ?_
      ·(try dsimp only at hSw)
       unfold oT9
       go_simp
      try simp only[oT9,Act.put,zA,zB,zC]
      refine wpAnyH_ready (rs:=[10]) (by kernel_rfl) (by simp) ?_
      refine AllReadyH.cons (o:=oT10) rfl (fun K hK=>?_) AllReadyH.nil
      unfold oT10
      go_simp
      refine hK.out _ _ KD (fun hHeld=>?_)
      clear hK K
      try simp only[oT10,Act.put,zA,zB,zC]
      refine wpAnyH_done (by kernel_rfl) ?_ _
      clear K0 KB KC KD bc bcD bcA bc9 fr9
      go_wp2
      go_roundw
      case rel=>exact⟨k+1,m+1,c9,some ⟨g9,0,none⟩,L++[(z0,z1,z2)],true,rfl,by go_num,by omega,by omega,NX,P9⟩
      case measure=>simp[intOf];omega
     ·unfold oT7
      go_simp
      refine hK.out _ _ KB (fun hHeld=>?_)
      clear hK K
      try simp only[oT7,Act.put,zA,zB,zC]
      refine wpAnyH_ready (rs:=[1]) (by kernel_rfl) (by simp) ?_
      refine AllReadyH.cons (o:=oT1) rfl (fun K hK=>?_) AllReadyH.nil
      unfold oT1
      go_simp
      refine hK.out _ _ KB (fun hHeld=>?_)
      clear hK K
      try simp only[oT1,Act.put,zA,zB,zC]
      refine wpAnyH_ready (rs:=[8]) (by kernel_rfl) (by simp) ?_
      refine AllReadyH.cons (o:=oT8) rfl (fun K hK=>?_) AllReadyH.nil
      refine step_app (q2.drew.alloc (.cells #[.int .i64 z0,.string z1,.string z2] 120)) (by rfl) _ _ 50 120 (by rfl) (.agg #[.int .i64 0,.string ByteArray.empty,.string ByteArray.empty]) 3 40 Tryz.underlying50 HelpF14.info2 rfl (by decide) (by decide) W.heap.size (.slice a (m) c) (m) (flatF (L)) q2.drew.heap.size [.int .i64 z0,.string z1,.string z2] (by rfl) (by rfl) (row_step (W:=q2.drew) (zu PVD).ow (one_more q2.drew (.cells #[.int .i64 z0,.string z1,.string z2] 120))) rfl (litm q2.drew _ _ _ (by rfl)) (by simp[Value.oneCell']) (by omega) (Nat.le_trans (show W.heap.size≤q2.drew.heap.size from u3s) (by simp)) ?_
      intro g9 c9 u9 o9 gr9
      have BL:=(zu PVD).off
      have PA:=(zu PVD).app (p:=(z0,z1,z2)) hO ((Below.refl _ _).drew.alloc (Nat.le_refl _) (.cells #[.int .i64 z0,.string z1,.string z2] 120)) gr9 o9
      have bx9:=PA.1
      have bc9:=bx9.c1
      have fr9:=bx9.free 1
      have P9:=zh PA.2
      have us9:=gr9.size
      simp at us9
      have KC:u9.cell? ⟨w.heap.size,1,none⟩=some (.slice (some ⟨g,0,none⟩) x.ps.length x.c)∧u9.cell? ⟨g,k*3,none⟩=some (.int .i64 z0)∧u9.cell? ⟨g,k*3+1,none⟩=some (.string z1)∧u9.cell? ⟨g,k*3+2,none⟩=some (.string z2):=⟨gr9.cell KB.1 (fun e=>by have:=BL _ e.symm;simp only at this;omega),gr9.cell KB.2.1 (fun e=>by have:=BL _ e.symm;simp only at this;omega),gr9.cell KB.2.2.1 (fun e=>by have:=BL _ e.symm;simp only at this;omega),gr9.cell KB.2.2.2 (fun e=>by have:=BL _ e.symm;simp only at this;omega)⟩
      have SB:=bc_set1 bx9 (.slice (some ⟨g9,0,none⟩) (m+1) c9)
      have KD:(u9.setCell ⟨w.heap.size+1+1+1,1,none⟩ (.slice (some ⟨g9,0,none⟩) (m+1) c9)).cell? ⟨w.heap.size,1,none⟩=some (.slice (some ⟨g,0,none⟩) x.ps.length x.c)∧(u9.setCell ⟨w.heap.size+1+1+1,1,none⟩ (.slice (some ⟨g9,0,none⟩) (m+1) c9)).cell? ⟨g,k*3,none⟩=some (.int .i64 z0)∧(u9.setCell ⟨w.heap.size+1+1+1,1,none⟩ (.slice (some ⟨g9,0,none⟩) (m+1) c9)).cell? ⟨g,k*3+1,none⟩=some (.string z1)∧(u9.setCell ⟨w.heap.size+1+1+1,1,none⟩ (.slice (some ⟨g9,0,none⟩) (m+1) c9)).cell? ⟨g,k*3+2,none⟩=some (.string z2):=⟨(kcell SB.2 (1) (show w.heap.size<u9.heap.size from by omega) (show w.heap.size≠w.heap.size+1+1+1 from by omega)).trans KC.1,(kcell SB.2 (k*3) (show g<u9.heap.size from by omega) (show g≠w.heap.size+1+1+1 from by omega)).trans KC.2.1,(kcell SB.2 (k*3+1) (show g<u9.heap.size from by omega) (show g≠w.heap.size+1+1+1 from by omega)).trans KC.2.2.1,(kcell SB.2 (k*3+2) (show g<u9.heap.size from by omega) (show g≠w.heap.size+1+1+1 from by omega)).trans KC.2.2.2⟩
      clear o9 gr9 PA SB bx9 BL
      refine hK.out _ _ KC (fun hHeld=>?_)
      clear hK K
      try simp only[oT8,Act.put,zA,zB,zC]
      refine tk 9 oT9 (.pointer (some ⟨w.heap.size+1+1+1,1,none⟩)) rfl (by kernel_rfl) (fun _ _ _ h=>h) (by rfl) (fun w hSw=>?_) hHeld ?_
      ·(try dsimp only at hSw)
       unfold oT9
       go_simp
      try simp only[oT9,Act.put,zA,zB,zC]
      refine wpAnyH_ready (rs:=[10]) (by kernel_rfl) (by simp) ?_
      refine AllReadyH.cons (o:=oT10) rfl (fun K hK=>?_) AllReadyH.nil
      unfold oT10
      go_simp
      refine hK.out _ _ KD (fun hHeld=>?_)
      clear hK K
      try simp only[oT10,Act.put,zA,zB,zC]
      refine wpAnyH_done (by kernel_rfl) ?_ _
      clear K0 KB KC KD bc bcD bcA bc9 fr9
      go_wp2
      go_roundw
      case rel=>exact⟨k+1,m+1,c9,some ⟨g9,0,none⟩,L++[(z0,z1,z2)],true,rfl,by go_num,by omega,by omega,NX,P9⟩
      case measure=>simp[intOf];omega
  ·have e:k=x.ps.length:=by omega
   subst e
   have fF:=(kcell (zu HPt).gr 0 wl1 (by omega)).trans (zu F0)
   have fG:=(kcell (zu HPt).gr 1 wl1 (by omega)).trans (zu F1)
   have fH:=(kcell (zu HPt).gr 2 wl1 (by omega)).trans (zu F2)
   have wc:=(kcell (zu HPt).gr 1 wl0 (by omega)).trans (zu HWD).c1
   cases pb
   ·have E:=zh (show putF x.ps (f0,f1,f2)=L++[(f0,f1,f2)] from by rw[zu PF,zu HP];simp)
    clear PF HP
    have bo:=(zu HPt).bx.c1
    have lo:=(zu HPt).bx.lt.2
    have bob:(wr.alloc (.cells #[.int .i64 f0,.string f1,.string f2] 120)).cell? ⟨w.heap.size+1+1+1,1,none⟩=some (.slice a (m) c):=((one_more wr (.cells #[.int .i64 f0,.string f1,.string f2] 120)).cell (p:=⟨w.heap.size+1+1+1,1,none⟩) lo).trans bo
    have vs:=(zu HPt).gr.size
    go_wp2_with (first|(at_builtin;refine wp_app _ rfl _ _ rfl W.heap.size (.slice a (m) c) (m) (flatF (L)) wr.heap.size [.int .i64 f0,.string f1,.string f2] rfl rfl (row_step (zu HPt).ow (one_more wr (.cells #[.int .i64 f0,.string f1,.string f2] 120))) rfl (litm wr _ _ _ (by rfl)) (by simp[Value.oneCell']) (by omega) (Nat.le_trans vs (by simp)) ?_)|go_in)
    intro g8 c8 u8 o8 gr8
    (try rw[←s3] at o8)
    have PA:=(zu HPt).app (p:=(f0,f1,f2)) hO (one_more wr (.cells #[.int .i64 f0,.string f1,.string f2] 120)) gr8 o8
    have bx8:=PA.1
    have b80:=bx8.c1
    have b81:=bx8.free 1
    have P8:=zh PA.2
    clear o8 gr8 PA bo bob bx8
    generalize hL:L++[(f0,f1,f2)]=L9 at *
    clear hL
    have B0:=(zu P8).bx.c0
    have B1:=(zu P8).bx.c1
    have Rk:=zh ((zu HRB).kept (zu P8).gr (by simp))
    have e0:=(zu Rk).free 0
    have e1:=(zu Rk).free 1
    have r0:=(zu Rk).c0
    have r1:=(zu Rk).c1
    have lm:L9.length=(m+1):=by
     have:=(zu P8).ow.1
     rw[flatF_len] at this
     omega
    have LM:=zh lm
    have OR:=zh (row_base (zu P8).ow (show w.heap.size≤W.heap.size from by omega))
    have LB:=zh (show ∀j,(Value.slice (some ⟨g8,0,none⟩) (m+1) c8).ownBlock=some j→w.heap.size+4≤j from fun j hj=>by have:=(zu P8).off j hj;omega)
    have t0:=(zu Rk).set0 (.int .i64 x.room)
    have t1:=bc_set1 t0.1 (.slice (some ⟨g8,0,none⟩) (m+1) c8)
    have ST:=zh (grow_grow t0.2 t1.2)
    have BB:=zh (grow_low (zu HWD).b (zu P8).gr (by omega))
    have us:=(zu P8).gr.size
    clear lm t0 t1
    go_wp2
    refine bodyPost_ret (v:= .agg #[.int .i64 x.room,.slice (some ⟨g8,0,none⟩) (m+1) c8]) (by simp[results,Tryz.results77,go_sem,r0,r1]) rfl ⟨⟨x.room,(some ⟨g8,0,none⟩),c8,L9⟩,rfl,(zu E).symm,by simp[zu LM],?_,?_⟩
    ·unfold OwD
     simp only[zu LM]
     exact World.ownsRow.kept (zu OR) (zu ST) (by
      cases hb:(Value.slice (some ⟨g8,0,none⟩) (m+1) c8).ownBlock with
      |none=>exact .inl rfl
      |some g=>exact .inr (fun e=>by have:=(zu LB) g hb;injection e with e;omega))
    ·exact grow_low (zu BB) (zu ST) (by omega)
   ·have E:=zh (show putF x.ps (f0,f1,f2)=L from by rw[zu PF,zu HP];simp)
    clear PF HP
    have B0:=(zu HPt).bx.c0
    have B1:=(zu HPt).bx.c1
    have Rk:=zh ((zu HRB).kept (zu HPt).gr (by simp))
    have e0:=(zu Rk).free 0
    have e1:=(zu Rk).free 1
    have r0:=(zu Rk).c0
    have r1:=(zu Rk).c1
    have lm:L.length=m:=by
     have:=(zu HPt).ow.1
     rw[flatF_len] at this
     omega
    have LM:=zh lm
    have OR:=zh (row_base (zu HPt).ow (show w.heap.size≤W.heap.size from by omega))
    have LB:=zh (show ∀j,(Value.slice a m c).ownBlock=some j→w.heap.size+4≤j from fun j hj=>by have:=(zu HPt).off j hj;omega)
    have t0:=(zu Rk).set0 (.int .i64 x.room)
    have t1:=bc_set1 t0.1 (.slice a m c)
    have ST:=zh (grow_grow t0.2 t1.2)
    have BB:=zh (grow_low (zu HWD).b (zu HPt).gr (by omega))
    have us:=(zu HPt).gr.size
    clear lm t0 t1
    go_wp2
    refine bodyPost_ret (v:= .agg #[.int .i64 x.room,.slice a m c]) (by simp[results,Tryz.results77,go_sem,r0,r1]) rfl ⟨⟨x.room,a,c,L⟩,rfl,(zu E).symm,by simp[zu LM],?_,?_⟩
    ·unfold OwD
     simp only[zu LM]
     exact World.ownsRow.kept (zu OR) (zu ST) (by
      cases hb:(Value.slice a m c).ownBlock with
      |none=>exact .inl rfl
      |some g=>exact .inr (fun e=>by have:=(zu LB) g hb;injection e with e;omega))
    ·exact grow_low (zu BB) (zu ST) (by omega)
end SPut14
namespace SAppend14
open Fil14 OpensF14 DiskH14 DkH14 SDk14 SOk14 SRd14 App14 SLess14 SCopy14 SRef14 SCom14 SPut14
open DkH14 (row_step)
def appF(ps:List TF)(nm:Int)(s:ByteArray):TF:=if 0≤findF ps nm then((elF ps (findF ps nm).toNat).1,(elF ps (findF ps nm).toNat).2.1,(elF ps (findF ps nm).toNat).2.2++s) else(nm,⟨#[]⟩,s)
noncomputable def appendD (room:Int) (ps:List TF) (nm:Int) (s:ByteArray):(Int×List TF)×Int:= @ite _ (OkD room ps∧okN nm=true) (Classical.propDecidable _) (if room-sumZ ps<s.size then((room,ps),3) else((room,putF ps (appF ps nm s)),0)) ((0,[]),1)
abbrev oD0:Oper:={dst:=some 21,op:=Go.Op.move (Go.Operand.tmp 2),type:=9,pos:= "l14_disk.go:82",after:= #[],guard:=none}
abbrev oD1:Oper:={dst:=some 22,op:=Go.Op.call {callee:=Go.Callee.builtin Go.Builtin.len,args:= #[Go.Operand.tmp 21],argTypes:= #[9]},type:=3,pos:= "l14_disk.go:82",after:= #[{on:=0,ground:=Go.Ground.data}],guard:=none}
abbrev oD2:Oper:={dst:=some 23,op:=Go.Op.fieldAddr 52 (Go.Operand.tmp 3) 0,type:=0,pos:= "l14_disk.go:82",after:= #[],guard:=none}
abbrev oD3:Oper:={dst:=some 24,op:=Go.Op.load 3 (Go.Operand.tmp 23),type:=3,pos:= "l14_disk.go:82",after:= #[{on:=2,ground:=Go.Ground.data}],guard:=none}
abbrev oD4:Oper:={dst:=some 25,op:=Go.Op.load 52 (Go.Operand.tmp 3),type:=52,pos:= "l14_disk.go:82",after:= #[],guard:=none}
abbrev oD5:Oper:={dst:=some 26,op:=Go.Op.call {callee:=Go.Callee.value (Go.Operand.func 75),args:= #[Go.Operand.tmp 25],argTypes:= #[52]},type:=3,pos:= "l14_disk.go:82",after:= #[{on:=4,ground:=Go.Ground.data}],guard:=none}
abbrev oD6:Oper:={dst:=some 27,op:=Go.Op.binOp Go.BinOp.sub 3 (Go.Operand.tmp 24) (Go.Operand.tmp 26) 3,type:=3,pos:= "l14_disk.go:82",after:= #[{on:=3,ground:=Go.Ground.data},{on:=5,ground:=Go.Ground.data}],guard:=none}
abbrev oD7:Oper:={dst:=some 28,op:=Go.Op.binOp Go.BinOp.gtr 3 (Go.Operand.tmp 22) (Go.Operand.tmp 27) 3,type:=4,pos:= "l14_disk.go:82",after:= #[{on:=1,ground:=Go.Ground.data},{on:=6,ground:=Go.Ground.data}],guard:=none}
abbrev oD8:Oper:={dst:=some 20,op:=Go.Op.assign (Go.Operand.tmp 28),type:=4,pos:= "l14_disk.go:82",after:= #[{on:=7,ground:=Go.Ground.data},{on:=5,ground:=Go.Ground.chain}],guard:=none}
theorem sDiskAppend(w:World)(x:Dx)(nm:Int)(s:ByteArray)(hr:RdD w x)(hz:sumZ x.ps≤1048576)(hs:s.size≤9223372036854775807):
  Calls Tryz.prog 38 #[.agg #[.int .i64 x.room,.slice x.a x.ps.length x.c],.int .i64 nm,.string s] w (ToldD (appendD x.room x.ps nm s) w):=by
 have HR:=zh hr
 have G0:=zh (begunD hr)
 have s2:((w.alloc (.cells #[.int .i64 x.room,.slice x.a x.ps.length x.c] 52)).alloc (.cells #[.int .i64 0,.slice none 0 0] 52)).heap.size=w.heap.size+2:=by simp
 have OK0:=zh (sDiskOk _ x (zu G0).1.r hz)
 have NM:=zh (fun u=>sName u nm)
 have RE:=zh (show appendD x.room x.ps nm s= @ite _ (OkD x.room x.ps∧okN nm=true) (Classical.propDecidable _) (if x.room-sumZ x.ps<s.size then((x.room,x.ps),3) else((x.room,putF x.ps (appF x.ps nm s)),0)) ((0,[]),1) from rfl)
 generalize appendD x.room x.ps nm s=rr at *
 clear hr
 by_cases ok:OkD x.room x.ps
 case neg=>
  have E:=zh (show rr=((0,[]),1) by rw[zu RE,if_neg (fun h=>ok h.1)])
  have OK:=zh (show Calls Tryz.prog 34 #[.agg #[.int .i64 x.room,.slice x.a x.ps.length x.c]] _ fun e w'=>e= .returned (.bool false)∧Below _ _ w' by have:=zu OK0;rw[decide_eq_false ok] at this;exact this)
  clear OK0 ok RE
  go_enter Tryz.func38,Tryz.ntmps38
  go_wp2_with fail
  refine(zu OK).mono ?_
  rintro e u ⟨rfl,b1⟩
  have R2:=zh ((zu G0).2.below b1 (by omega))
  have EN:=zh (endedD (y:=⟨0,none,0,[]⟩) (base0:=w.heap.size+2) (((zu G0).1.step b1).b) (zu R2) ⟨rfl,.inl ⟨rfl,rfl⟩⟩ (by omega))
  have f0:=(zu R2).free 0
  have f1:=(zu R2).free 1
  have r0:=(zu R2).c0
  have r1:=(zu R2).c1
  clear b1
  go_wp2
  refine bodyPost_ret (v:= .tuple #[.agg #[.int .i64 0,.slice none 0 0],.int .i64 1]) (by simp[results,Tryz.results38,go_sem,r0,r1]) rfl ?_
  rw[zu E]
  exact⟨⟨0,none,0,[]⟩,rfl,rfl,(zu EN).1,(zu EN).2⟩
 have OK:=zh (show Calls Tryz.prog 34 #[.agg #[.int .i64 x.room,.slice x.a x.ps.length x.c]] _ fun e w'=>e= .returned (.bool true)∧Below _ _ w' by have:=zu OK0;rw[decide_eq_true ok] at this;exact this)
 clear OK0
 have OKH:=zh ok
 cases okn:okN nm with
 |false=>
  have E:=zh (show rr=((0,[]),1) by rw[zu RE,if_neg (fun h=>by rw[okn] at h;simp at h)])
  rw[okn] at NM
  clear RE ok
  go_enter Tryz.func38,Tryz.ntmps38
  go_wp2_with fail
  refine(zu OK).mono ?_
  rintro e u0 ⟨rfl,b1⟩
  have R2:=zh ((zu G0).2.below b1 (by omega))
  have EN:=zh (endedD (y:=⟨0,none,0,[]⟩) (base0:=w.heap.size+2) (((zu G0).1.step b1).b) (zu R2) ⟨rfl,.inl ⟨rfl,rfl⟩⟩ (by omega))
  clear b1
  go_wp2_with fail
  refine((zu NM) u0).mono ?_
  rintro e u ⟨rfl,rfl⟩
  have f0:=(zu R2).free 0
  have f1:=(zu R2).free 1
  have r0:=(zu R2).c0
  have r1:=(zu R2).c1
  go_wp2
  refine bodyPost_ret (v:= .tuple #[.agg #[.int .i64 0,.slice none 0 0],.int .i64 1]) (by simp[results,Tryz.results38,go_sem,r0,r1]) rfl ?_
  rw[zu E]
  exact⟨⟨0,none,0,[]⟩,rfl,rfl,(zu EN).1,(zu EN).2⟩
 |true=>
  rw[okn] at NM
  obtain⟨b,hb⟩:∃b,decide (x.room-(sumZ x.ps:Int)<(s.size:Int))=b:=⟨_,rfl⟩
  have HB:=zh hb
  have z0:=ok.1
  have z1:=ok.2.2.1
  have wr1:wrap64 (x.room-(sumZ x.ps:Int))=x.room-(sumZ x.ps:Int):=by rw[wrap64];omega
  have wr2:IntKind.i64.wrap (x.room-(sumZ x.ps:Int))=x.room-(sumZ x.ps:Int):=by rw[IntKind.wrap_i64];omega
  go_enter Tryz.func38,Tryz.ntmps38
  go_wp2_with fail
  generalize (w.alloc (.cells #[.int .i64 x.room,.slice x.a x.ps.length x.c] 52)).alloc (.cells #[.int .i64 0,.slice none 0 0] 52)=W at *
  refine(zu OK).mono ?_
  rintro e u0 ⟨rfl,b1⟩
  have W1:=zh ((zu G0).1.step b1)
  have R1:=zh ((zu G0).2.below b1 (by omega))
  have us:=b1.size
  clear b1 OK G0
  go_wp2_with fail
  refine((zu NM) u0).mono ?_
  rintro e u ⟨rfl,rfl⟩
  clear NM
  have c0:=(zu W1).c0
  have c1:=(zu W1).c1
  have K0:u.cell? ⟨w.heap.size,0,none⟩=some (.int .i64 x.room)∧u.cell? ⟨w.heap.size,1,none⟩=some (.slice x.a x.ps.length x.c):=⟨c0,c1⟩
  go_wp2_with fail
  refine wp_region_held_drew (S:=(fun w'=>w'.cell? ⟨w.heap.size,0,none⟩=some (.int .i64 x.room)∧w'.cell? ⟨w.heap.size,1,none⟩=some (.slice x.a x.ps.length x.c))) (by kernel_rfl) K0 (fun hHeld=>?_)
  refine tk 0 oD0 (.string s) rfl (by kernel_rfl) (fun _ _ _ h=>h) (by rfl) (fun w hSw=>?_) hHeld ?_
  ·(try dsimp only at hSw)
   unfold oD0
   go_simp
  try simp only[oD0,Act.put,zA,zB,zC]
  refine tk 1 oD1 (.int .i64 s.size) rfl (by kernel_rfl) (fun _ _ _ h=>h) (by rfl) (fun w hSw=>?_) hHeld ?_
  ·(try dsimp only at hSw)
   unfold oD1
   go_simp
  try simp only[oD1,Act.put,zA,zB,zC]
  refine tk 2 oD2 (.pointer (some ⟨w.heap.size,0,none⟩)) rfl (by kernel_rfl) (fun _ _ _ h=>h) (by rfl) (fun w hSw=>?_) hHeld ?_
  ·(try dsimp only at hSw)
   unfold oD2
   go_simp
  try simp only[oD2,Act.put,zA,zB,zC]
  refine tk 3 oD3 (.int .i64 x.room) rfl (by kernel_rfl) (fun _ _ _ h=>h) (by rfl) (fun w hSw=>?_) hHeld ?_
  ·(try dsimp only at hSw)
   unfold oD3
   go_simp
  try simp only[oD3,Act.put,zA,zB,zC]
  refine tk 4 oD4 (.agg #[.int .i64 x.room,.slice x.a x.ps.length x.c]) rfl (by kernel_rfl) (fun _ _ _ h=>h) (by rfl) (fun w hSw=>?_) hHeld ?_
  ·(try dsimp only at hSw)
   unfold oD4
   go_simp
  try simp only[oD4,Act.put,zA,zB,zC]
  refine wpAnyH_ready (rs:=[5]) (by kernel_rfl) (by simp) ?_
  refine AllReadyH.cons (o:=oD5) rfl (fun K hK=>?_) AllReadyH.nil
  unfold oD5
  go_simp
  go_wp2_with fail
  refine(sSize u.drew x (zu W1).drew.r hz).mono ?_
  rintro e v ⟨rfl,bb⟩
  have bb1:Below u.heap.size u v:=⟨bb.os,bb.tape,bb.output,bb.size,bb.block⟩
  have W4:=zh ((zu W1).step bb1)
  have R4:=zh ((zu R1).below bb1 (zu R1).lt.2)
  have K1:v.cell? ⟨w.heap.size,0,none⟩=some (.int .i64 x.room)∧v.cell? ⟨w.heap.size,1,none⟩=some (.slice x.a x.ps.length x.c):=⟨(zu W4).c0,(zu W4).c1⟩
  have vs:=bb1.size
  clear bb bb1
  go_wp2_with fail
  refine hK.out _ _ K1 (fun hHeld=>?_)
  clear hK K
  try simp only[oD5,Act.put,zA,zB,zC]
  refine tk 6 oD6 (.int .i64 (x.room-sumZ x.ps)) rfl (by kernel_rfl) (fun _ _ _ h=>h) (by rfl) (fun w hSw=>?_) hHeld ?_
  ·(try dsimp only at hSw)
   unfold oD6
   go_simp
  try simp only[oD6,Act.put,zA,zB,zC]
  refine tk 7 oD7 (.bool b) rfl (by kernel_rfl) (fun _ _ _ h=>h) (by rfl) (fun w hSw=>?_) hHeld ?_
  ·(try dsimp only at hSw)
   unfold oD7
   go_simp
  try simp only[oD7,Act.put,zA,zB,zC]
  refine tk 8 oD8 (.bool b) rfl (by kernel_rfl) (fun _ _ _ h=>h) (by rfl) (fun w hSw=>?_) hHeld ?_
  ·(try dsimp only at hSw)
   unfold oD8
   go_simp
  try simp only[oD8,Act.put,zA,zB,zC]
  refine wpAnyH_done (by kernel_rfl) ?_ _
  clear c0 c1 hb wr1 wr2 z0 z1
  have W5:=W4
  have R5:=R4
  cases b with
  |true=>
   have E:=zh (show rr=((x.room,x.ps),3) by rw[zu RE,if_pos ⟨ok,okn⟩,if_pos (by simpa using zu HB)])
   have d0:=(zu W4).c0
   have d1:=(zu W4).c1
   clear K0 K1
   go_wp2_with fail
   refine(sCopy _ x (zu W5).r).mono ?_
   rintro e u2 ⟨y,yr,yp,rfl,oy,b2⟩
   have HY:=zh (show(y.room,y.ps)=(x.room,x.ps) by rw[yr,yp])
   have R2:=zh ((zu R5).below b2 (zu R5).lt.2)
   have EN:=zh (endedD ((zu W5).b.trans (b2.mono (zu W5).b.size)) (zu R2) oy (zu R5).lt.2)
   have f0:=(zu R2).free 0
   have f1:=(zu R2).free 1
   have r0:=(zu R2).c0
   have r1:=(zu R2).c1
   clear b2 oy yr yp d0 d1
   go_wp2
   refine bodyPost_ret (v:= .tuple #[.agg #[.int .i64 y.room,.slice y.a y.ps.length y.c],.int .i64 3]) (by simp[results,Tryz.results38,go_sem,r0,r1]) rfl ?_
   rw[zu E]
   exact⟨y,zu HY,rfl,(zu EN).1,(zu EN).2⟩
  |false=>
   have RE2:=zh (show rr=((x.room,putF x.ps (appF x.ps nm s)),0) by rw[zu RE,if_pos ⟨ok,okn⟩,if_neg (by have:=zu HB;simpa using this)])
   have sr:(s.size:Int)≤x.room-sumZ x.ps:=by have:=zu HB;simpa using this
   clear RE HB
   obtain⟨V3,hV3⟩:∃V3,Hid (V3=v.alloc (.cells #[.int .i64 nm,.string ⟨#[]⟩,.string ⟨#[]⟩] 120)):=⟨_,rfl⟩
   have b3:=zh (show Below v.heap.size v V3 by rw[zu hV3];exact one_more _ _)
   have W6:=zh ((zu W5).step (zu b3))
   have R6:=zh ((zu R5).below (zu b3) (zu R5).lt.2)
   have F6:=zh (show OwnF 120 V3 w.heap.size v.heap.size 1 1 [(nm,⟨#[]⟩,⟨#[]⟩)] by rw[zu hV3];exact litF1 _ _ _ _ _ _ (by have:=(zu W5).lt;omega))
   have d0:=(zu W6).c0
   have d1:=(zu W6).c1
   have e0:v.cell? ⟨w.heap.size,0,none⟩=some (.int .i64 x.room):=(zu W5).c0
   have e1:v.cell? ⟨w.heap.size,1,none⟩=some (.slice x.a x.ps.length x.c):=(zu W5).c1
   have wl:=(zu W5).lt
   go_wp2_with fail
   rw[←zu hV3]
   clear e0 e1 hV3
   refine(sFind V3 x nm (zu W6).r).mono ?_
   rintro e u3 ⟨rfl,b4⟩
   have W7:=zh ((zu W6).step b4)
   have R7:=zh ((zu R6).below b4 (zu R6).lt.2)
   have F7:=zh ((zu F6).below b4 (by have:=(zu F6).lt;omega))
   have v7:=b4.size
   have fl:=(zu F6).lt
   clear b4 W6 R6 F6 d0 d1
   have FI:=zh (findF_in (ps:=x.ps) (nm:=nm))
   have RF:=zh (show appF x.ps nm s=if 0≤findF x.ps nm then((elF x.ps (findF x.ps nm).toNat).1,(elF x.ps (findF x.ps nm).toNat).2.1,(elF x.ps (findF x.ps nm).toNat).2.2++s) else(nm,⟨#[]⟩,s) from rfl)
   generalize appF x.ps nm s=ff at *
   generalize findF x.ps nm=fi at *
   have q0:u3.cell? ⟨v.heap.size,0,none⟩=some (.int .i64 nm):=((zu F7).at 0 (by simp)).1
   have q1:u3.cell? ⟨v.heap.size,1,none⟩=some (.string ⟨#[]⟩):=((zu F7).at 0 (by simp)).2.1
   have q2:u3.cell? ⟨v.heap.size,2,none⟩=some (.string ⟨#[]⟩):=((zu F7).at 0 (by simp)).2.2
   have x0:=(zu F7).free 0
   have x1:=(zu F7).free 1
   have x2:=(zu F7).free 2
   have z60:=ok.1.2
   by_cases fn:0≤fi
   ·obtain⟨k,rfl,kl,en⟩:=(zu FI) fn
    have kt:(k:Int)<x.ps.length:=by omega
    obtain⟨g,ea,lg,h0,h1,h2⟩:=cells_of (zu W7).r kl
    have ix:=ixF x.c ea kl
    have NX:=sumZ_next kl
    have LE:=sumZ_le x.ps (k+1)
    have ES:=zh (show ff=((elF x.ps k).1,(elF x.ps k).2.1,(elF x.ps k).2.2++s) by rw[zu RF,if_pos fn];rfl)
    have s1:(elF x.ps k).2.1.size+(elF x.ps k).2.2.size≤1048576:=by omega
    clear FI RF en ea NX LE
    generalize (elF x.ps k).1=z0 at *
    generalize (elF x.ps k).2.1=z1 at *
    generalize (elF x.ps k).2.2=z2 at *
    have s3:z2.size+s.size≤9223372036854775807:=by omega
    obtain⟨o1,g1⟩:=(zu F7).set0 0 z0
    obtain⟨o2,g2⟩:=o1.set1 0 z1
    obtain⟨o3,g3⟩:=o2.set2 0 z2
    obtain⟨o4,g4⟩:=o3.set2 0 (z2++s)
    have GG:=zh (grow_grow (grow_grow (grow_grow g1 g2) g3) g4)
    have q3:(((u3.setCell ⟨v.heap.size,0,none⟩ (.int .i64 z0)).setCell ⟨v.heap.size,1,none⟩ (.string z1)).setCell ⟨v.heap.size,2,none⟩ (.string z2)).cell? ⟨v.heap.size,2,none⟩=some (.string z2):=(o3.at 0 (by simp)).2.2
    have d0:=(zu W7).c0
    have d1:=(zu W7).c1
    have B7:=zh (grow_low (zu W7).b (zu GG) ⟨by omega,(zu W7).b.size⟩)
    have W5:=zh (show Wd w ((((u3.setCell ⟨v.heap.size,0,none⟩ (.int .i64 z0)).setCell ⟨v.heap.size,1,none⟩ (.string z1)).setCell ⟨v.heap.size,2,none⟩ (.string z2)).setCell ⟨v.heap.size,2,none⟩ (.string (z2++s))) x from⟨(kcell (zu GG) 0 (zu W7).lt (by omega)).trans d0,(kcell (zu GG) 1 (zu W7).lt (by omega)).trans d1,Nat.lt_of_lt_of_le (zu W7).lt (zu GG).size,zu B7,(zu HR).below (zu B7)⟩)
    have R5:=zh (show Bc ((((u3.setCell ⟨v.heap.size,0,none⟩ (.int .i64 z0)).setCell ⟨v.heap.size,1,none⟩ (.string z1)).setCell ⟨v.heap.size,2,none⟩ (.string z2)).setCell ⟨v.heap.size,2,none⟩ (.string (z2++s))) w.heap.size (w.heap.size+1) (.int .i64 0) (.slice none 0 0) from(zu R7).kept (zu GG) (by simp;omega))
    have gsz:=(zu GG).size
    clear o1 o2 o3 o4 g1 g2 g3 g4
    go_wp2_with fail
    refine(sPut _ x z0 z1 (z2++s) (zu W5).r ok.2.1).mono ?_
    rintro e u2 ⟨y,yr,yp,rfl,oy,b2⟩
    have E:=RE2
    have HY:=zh (show(y.room,y.ps)=(x.room,putF x.ps ff) by rw[yr,yp,zu ES])
    have R2:=zh ((zu R5).below b2 (zu R5).lt.2)
    have EN:=zh (endedD ((zu W5).b.trans (b2.mono (zu W5).b.size)) (zu R2) oy (zu R5).lt.2)
    have f0:=(zu R2).free 0
    have f1:=(zu R2).free 1
    have r0:=(zu R2).c0
    have r1:=(zu R2).c1
    clear b2 oy yr yp
    go_wp2
    refine bodyPost_ret (v:= .tuple #[.agg #[.int .i64 y.room,.slice y.a y.ps.length y.c],.int .i64 0]) (by simp[results,Tryz.results38,go_sem,r0,r1]) rfl ?_
    rw[zu E]
    exact⟨y,zu HY,rfl,(zu EN).1,(zu EN).2⟩
   ·have ES:=zh (show ff=(nm,⟨#[]⟩,s) by rw[zu RF,if_neg fn])
    clear FI RF
    have s3:s.size≤9223372036854775807:=by omega
    obtain⟨o3,g3⟩:=(zu F7).set2 0 s
    have GG:=zh g3
    have d0:=(zu W7).c0
    have d1:=(zu W7).c1
    have B7:=zh (grow_low (zu W7).b (zu GG) ⟨by omega,(zu W7).b.size⟩)
    have W5:=zh (show Wd w (u3.setCell ⟨v.heap.size,2,none⟩ (.string s)) x from⟨(kcell (zu GG) 0 (zu W7).lt (by omega)).trans d0,(kcell (zu GG) 1 (zu W7).lt (by omega)).trans d1,Nat.lt_of_lt_of_le (zu W7).lt (zu GG).size,zu B7,(zu HR).below (zu B7)⟩)
    have R5:=zh (show Bc (u3.setCell ⟨v.heap.size,2,none⟩ (.string s)) w.heap.size (w.heap.size+1) (.int .i64 0) (.slice none 0 0) from(zu R7).kept (zu GG) (by simp;omega))
    have gsz:=(zu GG).size
    clear o3 g3
    go_wp2_with fail
    refine(sPut _ x nm ⟨#[]⟩ s (zu W5).r ok.2.1).mono ?_
    rintro e u2 ⟨y,yr,yp,rfl,oy,b2⟩
    have E:=RE2
    have HY:=zh (show(y.room,y.ps)=(x.room,putF x.ps ff) by rw[yr,yp,zu ES])
    have R2:=zh ((zu R5).below b2 (zu R5).lt.2)
    have EN:=zh (endedD ((zu W5).b.trans (b2.mono (zu W5).b.size)) (zu R2) oy (zu R5).lt.2)
    have f0:=(zu R2).free 0
    have f1:=(zu R2).free 1
    have r0:=(zu R2).c0
    have r1:=(zu R2).c1
    clear b2 oy yr yp
    go_wp2
    refine bodyPost_ret (v:= .tuple #[.agg #[.int .i64 y.room,.slice y.a y.ps.length y.c],.int .i64 0]) (by simp[results,Tryz.results38,go_sem,r0,r1]) rfl ?_
    rw[zu E]
    exact⟨y,zu HY,rfl,(zu EN).1,(zu EN).2⟩
end SAppend14
end Go.Proofs.YtagmnociflkhcaaGreat
