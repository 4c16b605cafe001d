/- Texts of one proof, one behind the other: SNums13, INums13. -/
import Derived.Test.YtagmnociflkhcaaGreatRows
import Derived.Test.YtagmnociflkhcaaGreatQW0
import Derived.Test.YtagmnociflkhcaaGreatQW14
import Derived.Test.YtagmnociflkhcaaGreatQW15
import Derived.Deep.RegionHeld3
set_option linter.unusedVariables false
set_option linter.unusedSimpArgs false
open Go.ChangeShapes Go.WideShapes Go.ChangeAt Go.RowKit
set_option maxRecDepth 100000
set_option maxHeartbeats 32000000
namespace Go.Proofs.YtagmnociflkhcaaGreat
namespace SNums13
open BMem Bks SPuts11
open IBalsFit (St one_more)
open Bals (T3 el3)
open Tup5 (T5 el5)
open Tup8 (T8 el8)
def AtI(w:World)(g:Nat)(xs:List Int):Prop:=∀i,i<xs.length→w.cell? ⟨g,i,none⟩=some (.int .i64 (xs.getD i 0))
theorem wp_catI(u:World){ops:Array Oper}{rest:List Oper}{o:Oper}{a:Act}{Q:Exit→Act→World→Prop}(hgd:o.guard=none)(s x:Operand)
  (ho:o.op= .call {callee:= .builtin .append,args:= #[s,x],argTypes:= #[96,96]})(base g n cap m:Nat)(xs ys:List Int)(vb c:Nat)
  (hs:a.eval s= .slice (some ⟨g,0,none⟩) n cap)(hx:a.eval x= .slice (some ⟨vb,0,none⟩) m c)(hown:Ints.Own u base g n cap xs)(hl:ys.length=m)(hv:AtI u vb ys)(hn:n+m≤100000000)(hb:base≤u.heap.size)
  (h:∀g' c' w',Ints.Own w' base g' (n+m) c' (xs++ys)→u.grownBy w' (some g)→(g'=g∨g'=u.heap.size)→wpList Tryz.prog ops Q rest (a.put o.dst (.slice (some ⟨g',0,none⟩) (n+m) c')) w'):wpList Tryz.prog ops Q (o::rest) a u:=by
 obtain⟨i0,hi,hz0,hz1,hz2⟩:=info_parts Ints.info3
 refine wpList_append_own_at u hgd s x 96 ho base 3 i0 (.int .i64 0) 1 8 Tryz.underlying96 hi hz0 hz1 hz2 rfl (by decide) _ n _ hs hown ⟨vb,0,none⟩ m c (ys.map (Value.int .i64)) hx (by simp[hl]) (fun j v hj=>by
  have hj':j<ys.length:=by
   have:=(List.getElem?_eq_some_iff.1 hj).1
   simpa using this
  have:=hv j hj'
  rw[Addr.add_lit,Nat.zero_add,this]
  rw[←hj]
  simp[List.getD,hj']) (by intro u hu;obtain⟨y,_,rfl⟩:=List.mem_map.1 hu;simp[Value.oneCell']) (by unfold maxLen;omega) (by omega) hb ?_
 intro v' w' own' gr' nil' loc'
 obtain⟨g',c',rfl,o'⟩:=own_of_rowI (n':=n+m) (xs:=xs++ys) own' rfl (by simp) (by rw[nil'];simp)
 exact h g' c' w' o' gr' (by simpa[Value.ownBlock] using loc')
theorem step_catI(u:World){ops:Array Oper}{o:Oper}{a:Act}{K:Act→World→Prop}{Q:Exit→Act→World→Prop}{E:Prop}(hgd:o.guard=none)(s x:Operand)
  (ho:o.op= .call {callee:= .builtin .append,args:= #[s,x],argTypes:= #[96,96]})(base g n cap m:Nat)(xs ys:List Int)(vb c:Nat)
  (hs:a.eval s= .slice (some ⟨g,0,none⟩) n cap)(hx:a.eval x= .slice (some ⟨vb,0,none⟩) m c)(hown:Ints.Own u base g n cap xs)(hl:ys.length=m)(hv:AtI u vb ys)(hn:n+m≤100000000)(hb:base≤u.heap.size)
  (h:∀g' c' w',Ints.Own w' base g' (n+m) c' (xs++ys)→u.grownBy w' (some g)→(g'=g∨g'=u.heap.size)→K (a.put o.dst (.slice (some ⟨g',0,none⟩) (n+m) c')) w'):if Region.wanted o (yielded ops a.tmps)=true then Oper.wp Tryz.prog o a u K Q else E:=by
 obtain⟨i0,hi,hz0,hz1,hz2⟩:=info_parts Ints.info3
 have hw:Region.wanted o (yielded ops a.tmps)=true:=by simp[Region.wanted,hgd]
 rw[if_pos hw]
 obtain⟨v',w',hr,own',gr',nil',loc'⟩:=run_append_own_at (P:=Tryz.prog) u base 96 o.type 3 i0 (.int .i64 0) 1 8 Tryz.underlying96 hi hz0 hz1 hz2 rfl (by decide) (.slice (some ⟨g,0,none⟩) n cap) n (xs.map (Value.int .i64)) hown ⟨vb,0,none⟩ m c (ys.map (Value.int .i64)) (by simp[hl]) (fun j v hj=>by
  have hj':j<ys.length:=by
   have:=(List.getElem?_eq_some_iff.1 hj).1
   simpa using this
  have:=hv j hj'
  rw[Addr.add_lit,Nat.zero_add,this]
  rw[←hj]
  simp[List.getD,hj']) (by intro u hu;obtain⟨y,_,rfl⟩:=List.mem_map.1 hu;simp[Value.oneCell']) (by unfold maxLen;omega) (by omega) hb
 unfold Oper.wp execOp
 simp only[ho,resolve,invoke,builtin,Sem.run_bind,Sem.run_pure,Result.andThen_ok,List.map_toArray,List.map_cons,List.map_nil,hs,hx,hr]
 obtain⟨g',c',rfl,o'⟩:=own_of_rowI (n':=n+m) (xs:=xs++ys) own' rfl (by simp) (by rw[nil'];simp)
 exact h g' c' w' o' gr' (by simpa[Value.ownBlock] using loc')
theorem lit1(w:World)(a:Int):AtI (w.alloc (.cells #[.int .i64 a] 3)) w.heap.size [a]:=by
 intro i hi
 have:i=0:=by simpa using hi
 subst this
 simp
theorem lit2(w:World)(a b:Int):AtI (w.alloc (.cells #[.int .i64 a,.int .i64 b] 3)) w.heap.size [a,b]:=by
 intro i hi
 have:i=0∨i=1:=by simp at hi;omega
 rcases this with rfl|rfl<;>simp
theorem lit3(w:World)(a b c:Int):AtI (w.alloc (.cells #[.int .i64 a,.int .i64 b,.int .i64 c] 3)) w.heap.size [a,b,c]:=by
 intro i hi
 have:i=0∨i=1∨i=2:=by simp at hi;omega
 rcases this with rfl|rfl|rfl<;>simp
theorem lit5(w:World)(a b c d e:Int):AtI (w.alloc (.cells #[.int .i64 a,.int .i64 b,.int .i64 c,.int .i64 d,.int .i64 e] 3)) w.heap.size [a,b,c,d,e]:=by
 intro i hi
 have:i=0∨i=1∨i=2∨i=3∨i=4:=by simp at hi;omega
 rcases this with rfl|rfl|rfl|rfl|rfl<;>simp
theorem lit8(w:World)(a b c d e f g h:Int):AtI (w.alloc (.cells #[.int .i64 a,.int .i64 b,.int .i64 c,.int .i64 d,.int .i64 e,.int .i64 f,.int .i64 g,.int .i64 h] 3)) w.heap.size [a,b,c,d,e,f,g,h]:=by
 intro i hi
 have:i=0∨i=1∨i=2∨i=3∨i=4∨i=5∨i=6∨i=7:=by simp at hi;omega
 rcases this with rfl|rfl|rfl|rfl|rfl|rfl|rfl|rfl<;>simp
def row2(p:Int×Int):List Int:=[p.1,p.2]
def row3(p:T3):List Int:=[p.1,p.2.1,p.2.2+1000000000000000]
def row5(p:T5):List Int:=[p.1,p.2.1,p.2.2.1,p.2.2.2.1,p.2.2.2.2]
def row8(p:T8):List Int:=[p.1,p.2.1,p.2.2.1,p.2.2.2.1,p.2.2.2.2.1,p.2.2.2.2.2.1,p.2.2.2.2.2.2.1,p.2.2.2.2.2.2.2]
def nums(b:Bk):List Int:=[(b.ac.length:Int)]++b.ac.flatMap row2++[(b.ic.length:Int)]++b.ic.flatMap row2++[(b.bs.length:Int)]++b.bs.flatMap row3++[(b.ls.length:Int)]++b.ls.flatMap row5++[(b.ts.length:Int)]++b.ts.flatMap row8++[b.lot]
theorem flat_more{α:Type}{ps:List α}{f:α→List Int}{k:Nat}(d:α)(h:k<ps.length):(ps.take (k+1)).flatMap f=(ps.take k).flatMap f++f (ps.getD k d):=by
 rw[List.take_succ_eq_append_getElem h,List.flatMap_append]
 simp[List.getD,h]
abbrev oN00:Oper:={dst:=some 22,op:=Go.Op.move (Go.Operand.tmp 3),type:=96,pos:= "l13_save.go:9",after:= #[],guard:=none}
abbrev oN01:Oper:={dst:=some 23,op:=Go.Op.fieldAddr 40 (Go.Operand.tmp 1) 0,type:=0,pos:= "l13_save.go:9",after:= #[],guard:=none}
abbrev oN02:Oper:={dst:=some 24,op:=Go.Op.load 34 (Go.Operand.tmp 23),type:=34,pos:= "l13_save.go:9",after:= #[{on:=1,ground:=Go.Ground.data}],guard:=none}
abbrev oN03:Oper:={dst:=some 25,op:=Go.Op.move (Go.Operand.tmp 4),type:=3,pos:= "l13_save.go:9",after:= #[],guard:=none}
abbrev oN04:Oper:={dst:=some 26,op:=Go.Op.indexAddr 34 (Go.Operand.tmp 24) (Go.Operand.tmp 25),type:=0,pos:= "l13_save.go:9",after:= #[{on:=2,ground:=Go.Ground.data},{on:=3,ground:=Go.Ground.data}],guard:=none}
abbrev oN05:Oper:={dst:=some 27,op:=Go.Op.fieldAddr 143 (Go.Operand.tmp 26) 0,type:=0,pos:= "l13_save.go:9",after:= #[{on:=4,ground:=Go.Ground.data}],guard:=none}
abbrev oN06:Oper:={dst:=some 28,op:=Go.Op.load 3 (Go.Operand.tmp 27),type:=3,pos:= "l13_save.go:9",after:= #[{on:=5,ground:=Go.Ground.data}],guard:=none}
abbrev oN07:Oper:={dst:=some 29,op:=Go.Op.fieldAddr 40 (Go.Operand.tmp 1) 0,type:=0,pos:= "l13_save.go:9",after:= #[],guard:=none}
abbrev oN08:Oper:={dst:=some 30,op:=Go.Op.load 34 (Go.Operand.tmp 29),type:=34,pos:= "l13_save.go:9",after:= #[{on:=7,ground:=Go.Ground.data}],guard:=none}
abbrev oN09:Oper:={dst:=some 31,op:=Go.Op.move (Go.Operand.tmp 4),type:=3,pos:= "l13_save.go:9",after:= #[],guard:=none}
abbrev oN010:Oper:={dst:=some 32,op:=Go.Op.indexAddr 34 (Go.Operand.tmp 30) (Go.Operand.tmp 31),type:=0,pos:= "l13_save.go:9",after:= #[{on:=8,ground:=Go.Ground.data},{on:=9,ground:=Go.Ground.data}],guard:=none}
abbrev oN011:Oper:={dst:=some 33,op:=Go.Op.fieldAddr 143 (Go.Operand.tmp 32) 1,type:=0,pos:= "l13_save.go:9",after:= #[{on:=10,ground:=Go.Ground.data}],guard:=none}
abbrev oN012:Oper:={dst:=some 34,op:=Go.Op.load 3 (Go.Operand.tmp 33),type:=3,pos:= "l13_save.go:9",after:= #[{on:=11,ground:=Go.Ground.data}],guard:=none}
abbrev oN013:Oper:={dst:=some 35,op:=Go.Op.buildSlice 96 2 #[(0,Go.Operand.tmp 28),(1,Go.Operand.tmp 34)],type:=96,pos:= "l13_save.go:9",after:= #[{on:=6,ground:=Go.Ground.data},{on:=12,ground:=Go.Ground.data}],guard:=none}
abbrev oN014:Oper:={dst:=some 36,op:=Go.Op.call {callee:=Go.Callee.builtin Go.Builtin.append,args:= #[Go.Operand.tmp 22,Go.Operand.tmp 35],argTypes:= #[96,96]},type:=96,pos:= "l13_save.go:9",after:= #[{on:=0,ground:=Go.Ground.data},{on:=13,ground:=Go.Ground.data}],guard:=none}
abbrev oN015:Oper:={dst:=some 3,op:=Go.Op.assign (Go.Operand.tmp 36),type:=96,pos:= "l13_save.go:9",after:= #[{on:=14,ground:=Go.Ground.data},{on:=14,ground:=Go.Ground.chain},{on:=0,ground:=Go.Ground.phase},{on:=1,ground:=Go.Ground.phase},{on:=2,ground:=Go.Ground.phase},{on:=3,ground:=Go.Ground.phase},{on:=4,ground:=Go.Ground.phase},{on:=5,ground:=Go.Ground.phase},{on:=6,ground:=Go.Ground.phase},{on:=7,ground:=Go.Ground.phase},{on:=8,ground:=Go.Ground.phase},{on:=9,ground:=Go.Ground.phase},{on:=10,ground:=Go.Ground.phase},{on:=11,ground:=Go.Ground.phase},{on:=12,ground:=Go.Ground.phase},{on:=13,ground:=Go.Ground.phase},{on:=14,ground:=Go.Ground.phase}],guard:=none}
abbrev oN10:Oper:={dst:=some 50,op:=Go.Op.move (Go.Operand.tmp 3),type:=96,pos:= "l13_save.go:13",after:= #[],guard:=none}
abbrev oN11:Oper:={dst:=some 51,op:=Go.Op.fieldAddr 40 (Go.Operand.tmp 1) 1,type:=0,pos:= "l13_save.go:13",after:= #[],guard:=none}
abbrev oN12:Oper:={dst:=some 52,op:=Go.Op.load 35 (Go.Operand.tmp 51),type:=35,pos:= "l13_save.go:13",after:= #[{on:=1,ground:=Go.Ground.data}],guard:=none}
abbrev oN13:Oper:={dst:=some 53,op:=Go.Op.move (Go.Operand.tmp 5),type:=3,pos:= "l13_save.go:13",after:= #[],guard:=none}
abbrev oN14:Oper:={dst:=some 54,op:=Go.Op.indexAddr 35 (Go.Operand.tmp 52) (Go.Operand.tmp 53),type:=0,pos:= "l13_save.go:13",after:= #[{on:=2,ground:=Go.Ground.data},{on:=3,ground:=Go.Ground.data}],guard:=none}
abbrev oN15:Oper:={dst:=some 55,op:=Go.Op.fieldAddr 144 (Go.Operand.tmp 54) 0,type:=0,pos:= "l13_save.go:13",after:= #[{on:=4,ground:=Go.Ground.data}],guard:=none}
abbrev oN16:Oper:={dst:=some 56,op:=Go.Op.load 3 (Go.Operand.tmp 55),type:=3,pos:= "l13_save.go:13",after:= #[{on:=5,ground:=Go.Ground.data}],guard:=none}
abbrev oN17:Oper:={dst:=some 57,op:=Go.Op.fieldAddr 40 (Go.Operand.tmp 1) 1,type:=0,pos:= "l13_save.go:13",after:= #[],guard:=none}
abbrev oN18:Oper:={dst:=some 58,op:=Go.Op.load 35 (Go.Operand.tmp 57),type:=35,pos:= "l13_save.go:13",after:= #[{on:=7,ground:=Go.Ground.data}],guard:=none}
abbrev oN19:Oper:={dst:=some 59,op:=Go.Op.move (Go.Operand.tmp 5),type:=3,pos:= "l13_save.go:13",after:= #[],guard:=none}
abbrev oN110:Oper:={dst:=some 60,op:=Go.Op.indexAddr 35 (Go.Operand.tmp 58) (Go.Operand.tmp 59),type:=0,pos:= "l13_save.go:13",after:= #[{on:=8,ground:=Go.Ground.data},{on:=9,ground:=Go.Ground.data}],guard:=none}
abbrev oN111:Oper:={dst:=some 61,op:=Go.Op.fieldAddr 144 (Go.Operand.tmp 60) 1,type:=0,pos:= "l13_save.go:13",after:= #[{on:=10,ground:=Go.Ground.data}],guard:=none}
abbrev oN112:Oper:={dst:=some 62,op:=Go.Op.load 3 (Go.Operand.tmp 61),type:=3,pos:= "l13_save.go:13",after:= #[{on:=11,ground:=Go.Ground.data}],guard:=none}
abbrev oN113:Oper:={dst:=some 63,op:=Go.Op.buildSlice 96 2 #[(0,Go.Operand.tmp 56),(1,Go.Operand.tmp 62)],type:=96,pos:= "l13_save.go:13",after:= #[{on:=6,ground:=Go.Ground.data},{on:=12,ground:=Go.Ground.data}],guard:=none}
abbrev oN114:Oper:={dst:=some 64,op:=Go.Op.call {callee:=Go.Callee.builtin Go.Builtin.append,args:= #[Go.Operand.tmp 50,Go.Operand.tmp 63],argTypes:= #[96,96]},type:=96,pos:= "l13_save.go:13",after:= #[{on:=0,ground:=Go.Ground.data},{on:=13,ground:=Go.Ground.data}],guard:=none}
abbrev oN115:Oper:={dst:=some 3,op:=Go.Op.assign (Go.Operand.tmp 64),type:=96,pos:= "l13_save.go:13",after:= #[{on:=14,ground:=Go.Ground.data},{on:=14,ground:=Go.Ground.chain},{on:=0,ground:=Go.Ground.phase},{on:=1,ground:=Go.Ground.phase},{on:=2,ground:=Go.Ground.phase},{on:=3,ground:=Go.Ground.phase},{on:=4,ground:=Go.Ground.phase},{on:=5,ground:=Go.Ground.phase},{on:=6,ground:=Go.Ground.phase},{on:=7,ground:=Go.Ground.phase},{on:=8,ground:=Go.Ground.phase},{on:=9,ground:=Go.Ground.phase},{on:=10,ground:=Go.Ground.phase},{on:=11,ground:=Go.Ground.phase},{on:=12,ground:=Go.Ground.phase},{on:=13,ground:=Go.Ground.phase},{on:=14,ground:=Go.Ground.phase}],guard:=none}
abbrev oN20:Oper:={dst:=some 78,op:=Go.Op.move (Go.Operand.tmp 3),type:=96,pos:= "l13_save.go:17",after:= #[],guard:=none}
abbrev oN21:Oper:={dst:=some 79,op:=Go.Op.fieldAddr 40 (Go.Operand.tmp 1) 2,type:=0,pos:= "l13_save.go:17",after:= #[],guard:=none}
abbrev oN22:Oper:={dst:=some 80,op:=Go.Op.load 36 (Go.Operand.tmp 79),type:=36,pos:= "l13_save.go:17",after:= #[{on:=1,ground:=Go.Ground.data}],guard:=none}
abbrev oN23:Oper:={dst:=some 81,op:=Go.Op.move (Go.Operand.tmp 6),type:=3,pos:= "l13_save.go:17",after:= #[],guard:=none}
abbrev oN24:Oper:={dst:=some 82,op:=Go.Op.indexAddr 36 (Go.Operand.tmp 80) (Go.Operand.tmp 81),type:=0,pos:= "l13_save.go:17",after:= #[{on:=2,ground:=Go.Ground.data},{on:=3,ground:=Go.Ground.data}],guard:=none}
abbrev oN25:Oper:={dst:=some 83,op:=Go.Op.fieldAddr 146 (Go.Operand.tmp 82) 0,type:=0,pos:= "l13_save.go:17",after:= #[{on:=4,ground:=Go.Ground.data}],guard:=none}
abbrev oN26:Oper:={dst:=some 84,op:=Go.Op.load 3 (Go.Operand.tmp 83),type:=3,pos:= "l13_save.go:17",after:= #[{on:=5,ground:=Go.Ground.data}],guard:=none}
abbrev oN27:Oper:={dst:=some 85,op:=Go.Op.fieldAddr 40 (Go.Operand.tmp 1) 2,type:=0,pos:= "l13_save.go:17",after:= #[],guard:=none}
abbrev oN28:Oper:={dst:=some 86,op:=Go.Op.load 36 (Go.Operand.tmp 85),type:=36,pos:= "l13_save.go:17",after:= #[{on:=7,ground:=Go.Ground.data}],guard:=none}
abbrev oN29:Oper:={dst:=some 87,op:=Go.Op.move (Go.Operand.tmp 6),type:=3,pos:= "l13_save.go:17",after:= #[],guard:=none}
abbrev oN210:Oper:={dst:=some 88,op:=Go.Op.indexAddr 36 (Go.Operand.tmp 86) (Go.Operand.tmp 87),type:=0,pos:= "l13_save.go:17",after:= #[{on:=8,ground:=Go.Ground.data},{on:=9,ground:=Go.Ground.data}],guard:=none}
abbrev oN211:Oper:={dst:=some 89,op:=Go.Op.fieldAddr 146 (Go.Operand.tmp 88) 1,type:=0,pos:= "l13_save.go:17",after:= #[{on:=10,ground:=Go.Ground.data}],guard:=none}
abbrev oN212:Oper:={dst:=some 90,op:=Go.Op.load 3 (Go.Operand.tmp 89),type:=3,pos:= "l13_save.go:17",after:= #[{on:=11,ground:=Go.Ground.data}],guard:=none}
abbrev oN213:Oper:={dst:=some 91,op:=Go.Op.fieldAddr 40 (Go.Operand.tmp 1) 2,type:=0,pos:= "l13_save.go:17",after:= #[],guard:=none}
abbrev oN214:Oper:={dst:=some 92,op:=Go.Op.load 36 (Go.Operand.tmp 91),type:=36,pos:= "l13_save.go:17",after:= #[{on:=13,ground:=Go.Ground.data}],guard:=none}
abbrev oN215:Oper:={dst:=some 93,op:=Go.Op.move (Go.Operand.tmp 6),type:=3,pos:= "l13_save.go:17",after:= #[],guard:=none}
abbrev oN216:Oper:={dst:=some 94,op:=Go.Op.indexAddr 36 (Go.Operand.tmp 92) (Go.Operand.tmp 93),type:=0,pos:= "l13_save.go:17",after:= #[{on:=14,ground:=Go.Ground.data},{on:=15,ground:=Go.Ground.data}],guard:=none}
abbrev oN217:Oper:={dst:=some 95,op:=Go.Op.fieldAddr 146 (Go.Operand.tmp 94) 2,type:=0,pos:= "l13_save.go:17",after:= #[{on:=16,ground:=Go.Ground.data}],guard:=none}
abbrev oN218:Oper:={dst:=some 96,op:=Go.Op.load 3 (Go.Operand.tmp 95),type:=3,pos:= "l13_save.go:17",after:= #[{on:=17,ground:=Go.Ground.data}],guard:=none}
abbrev oN219:Oper:={dst:=some 97,op:=Go.Op.binOp Go.BinOp.add 3 (Go.Operand.tmp 96) (Go.Operand.const (Go.Value.int Go.IntKind.i64 1000000000000000)) 3,type:=3,pos:= "l13_save.go:17",after:= #[{on:=18,ground:=Go.Ground.data}],guard:=none}
abbrev oN220:Oper:={dst:=some 98,op:=Go.Op.buildSlice 96 3 #[(0,Go.Operand.tmp 84),(1,Go.Operand.tmp 90),(2,Go.Operand.tmp 97)],type:=96,pos:= "l13_save.go:17",after:= #[{on:=6,ground:=Go.Ground.data},{on:=12,ground:=Go.Ground.data},{on:=19,ground:=Go.Ground.data}],guard:=none}
abbrev oN221:Oper:={dst:=some 99,op:=Go.Op.call {callee:=Go.Callee.builtin Go.Builtin.append,args:= #[Go.Operand.tmp 78,Go.Operand.tmp 98],argTypes:= #[96,96]},type:=96,pos:= "l13_save.go:17",after:= #[{on:=0,ground:=Go.Ground.data},{on:=20,ground:=Go.Ground.data}],guard:=none}
abbrev oN222:Oper:={dst:=some 3,op:=Go.Op.assign (Go.Operand.tmp 99),type:=96,pos:= "l13_save.go:17",after:= #[{on:=21,ground:=Go.Ground.data},{on:=21,ground:=Go.Ground.chain},{on:=0,ground:=Go.Ground.phase},{on:=1,ground:=Go.Ground.phase},{on:=2,ground:=Go.Ground.phase},{on:=3,ground:=Go.Ground.phase},{on:=4,ground:=Go.Ground.phase},{on:=5,ground:=Go.Ground.phase},{on:=6,ground:=Go.Ground.phase},{on:=7,ground:=Go.Ground.phase},{on:=8,ground:=Go.Ground.phase},{on:=9,ground:=Go.Ground.phase},{on:=10,ground:=Go.Ground.phase},{on:=11,ground:=Go.Ground.phase},{on:=12,ground:=Go.Ground.phase},{on:=13,ground:=Go.Ground.phase},{on:=14,ground:=Go.Ground.phase},{on:=15,ground:=Go.Ground.phase},{on:=16,ground:=Go.Ground.phase},{on:=17,ground:=Go.Ground.phase},{on:=18,ground:=Go.Ground.phase},{on:=19,ground:=Go.Ground.phase},{on:=20,ground:=Go.Ground.phase},{on:=21,ground:=Go.Ground.phase}],guard:=none}
theorem sNums(w:World)(x:Bx)(h:Rd w x)(ha:∀i,i<x.b.bs.length→-1000000000000000≤(el3 x.b.bs i).2.2∧(el3 x.b.bs i).2.2≤1000000000000000):
  Calls Tryz.prog 58 #[.agg #[.slice (some ⟨x.ga,0,none⟩) x.b.ac.length x.ca,.slice (some ⟨x.gi,0,none⟩) x.b.ic.length x.ci,.slice (some ⟨x.gb,0,none⟩) x.b.bs.length x.cb,.slice (some ⟨x.gl,0,none⟩) x.b.ls.length x.cl,.slice (some ⟨x.gt,0,none⟩) x.b.ts.length x.ct,.int .i64 x.b.lot]] w fun e w'=>∃g c,e= .returned (.slice (some ⟨g,0,none⟩) (nums x.b).length c)∧Ints.Own w' w.heap.size g (nums x.b).length c (nums x.b)∧Below w.heap.size w w':=by
 have S0:=zh (St.start h 40)
 have XB:=zh (show((x.ga<w.heap.size∧x.gi<w.heap.size)∧x.gb<w.heap.size) from⟨⟨h.la,h.li⟩,h.lb⟩)
 have na:=h.na
 have ni:=h.ni
 have nb:=h.nb
 have nl:=h.nl
 have nt:=h.nt
 have HA:=zh ha
 clear h ha
 go_enter Tryz.func58,Tryz.ntmps58
 have s0:=(zu S0).c.c0
 go_wp2
 clear s0
 generalize hW:(w.alloc (.cells #[.slice (some ⟨x.ga,0,none⟩) x.b.ac.length x.ca,.slice (some ⟨x.gi,0,none⟩) x.b.ic.length x.ci,.slice (some ⟨x.gb,0,none⟩) x.b.bs.length x.cb,.slice (some ⟨x.gl,0,none⟩) x.b.ls.length x.cl,.slice (some ⟨x.gt,0,none⟩) x.b.ts.length x.ct,.int .i64 x.b.lot] 40))=W0 at *
 have ws:W0.heap.size=w.heap.size+1:=by rw[←hW];simp
 have O0:=zh (show Ints.Own (W0.alloc (.cells #[.int .i64 x.b.ac.length] 3)) W0.heap.size (w.heap.size+1) 1 1 [(x.b.ac.length:Int)] from by rw[←ws];exact World.ownsRow_lit W0 #[.int .i64 x.b.ac.length] 1 (Nat.le_refl _) (by decide) rfl)
 have B0:=zh (one_more W0 (.cells #[.int .i64 x.b.ac.length] 3))
 clear hW
 generalize hA:[(x.b.ac.length:Int)]=A0 at *
 have HA0:=zh hA
 clear hA
 go_loopw [3,4] (fun l i wr=>∃(k g c n:Nat),i= .int .i64 k∧k≤x.b.ac.length∧l= .slice (some ⟨g,0,none⟩) n c∧n≤1+2*k∧Hid (Ints.Own wr W0.heap.size g n c (A0++(x.b.ac.take k).flatMap row2))∧Hid (Below W0.heap.size W0 wr)) (fun _ i _=>x.b.ac.length-(intOf i).toNat)
 case atStart=>exact⟨0,_,_,_,rfl,by omega,rfl,by omega,zh (by simpa using zu O0),B0⟩
 case round=>
  clear O0 B0
  obtain⟨k,g,c,n,rfl,hk,rfl,nk,HO,HB⟩:=hrel
  have bs:=(zu HB).size
  have og:=(zu HO).lt
  have S1:=zh ((zu S0).step (zu HB))
  have cf:=(zu S1).c.c0
  by_cases t:k<x.b.ac.length
  ·have kt:(k:Int)<x.b.ac.length:=by omega
   have d:=(zu S1).r.ra k t
   have lg:=(zu S1).r.la
   have NX:=zh (flat_more (f:=row2) ((0,0):Int×Int) t)
   change Hid (_=_++row2 (Chart.el x.b.ac k)) at NX
   change wr.cell? ⟨x.ga,k*2,none⟩=some (.int .i64 (Chart.el x.b.ac k).1)∧wr.cell? ⟨x.ga,k*2+1,none⟩=some (.int .i64 (Chart.el x.b.ac k).2) at d
   generalize Chart.el x.b.ac k=p at *
   obtain⟨p0,p1⟩:=p
   obtain⟨d0,d1⟩:=d
   have K0:wr.cell? ⟨w.heap.size,0,none⟩=some (.slice (some ⟨x.ga,0,none⟩) x.b.ac.length x.ca)∧wr.cell? ⟨x.ga,k*2,none⟩=some (.int .i64 p0)∧wr.cell? ⟨x.ga,k*2+1,none⟩=some (.int .i64 p1):=⟨cf,d0,d1⟩
   go_wp2_with fail
   refine wp_region_held_drew (S:=(fun w'=>w'.cell? ⟨w.heap.size,0,none⟩=some (.slice (some ⟨x.ga,0,none⟩) x.b.ac.length x.ca)∧w'.cell? ⟨x.ga,k*2,none⟩=some (.int .i64 p0)∧w'.cell? ⟨x.ga,k*2+1,none⟩=some (.int .i64 p1))) (by kernel_rfl) K0 (fun hHeld=>?_)
   refine tk 0 oN00 (.slice (some ⟨g,0,none⟩) n c) rfl (by kernel_rfl) (fun _ _ _ h=>h) (by rfl) (fun w hSw=>?_) hHeld ?_
   ·(try dsimp only at hSw)
    unfold oN00
    go_simp
   try simp only[oN00,Act.put,zA,zB,zC]
   refine tk 1 oN01 (.pointer (some ⟨w.heap.size,0,none⟩)) rfl (by kernel_rfl) (fun _ _ _ h=>h) (by rfl) (fun w hSw=>?_) hHeld ?_
   ·(try dsimp only at hSw)
    unfold oN01
    go_simp
   try simp only[oN01,Act.put,zA,zB,zC]
   refine tk 2 oN02 (.slice (some ⟨x.ga,0,none⟩) x.b.ac.length x.ca) rfl (by kernel_rfl) (fun _ _ _ h=>h) (by rfl) (fun w hSw=>?_) hHeld ?_
   ·(try dsimp only at hSw)
    unfold oN02
    go_simp
   try simp only[oN02,Act.put,zA,zB,zC]
   refine tk 3 oN03 (.int .i64 k) rfl (by kernel_rfl) (fun _ _ _ h=>h) (by rfl) (fun w hSw=>?_) hHeld ?_
   ·(try dsimp only at hSw)
    unfold oN03
    go_simp
   try simp only[oN03,Act.put,zA,zB,zC]
   refine tk 4 oN04 (.pointer (some ⟨x.ga,k*2,none⟩)) rfl (by kernel_rfl) (fun _ _ _ h=>h) (by rfl) (fun w hSw=>?_) hHeld ?_
   ·(try dsimp only at hSw)
    unfold oN04
    go_simp
   try simp only[oN04,Act.put,zA,zB,zC]
   refine tk 5 oN05 (.pointer (some ⟨x.ga,k*2,none⟩)) rfl (by kernel_rfl) (fun _ _ _ h=>h) (by rfl) (fun w hSw=>?_) hHeld ?_
   ·(try dsimp only at hSw)
    unfold oN05
    go_simp
   try simp only[oN05,Act.put,zA,zB,zC]
   refine tk 6 oN06 (.int .i64 p0) rfl (by kernel_rfl) (fun _ _ _ h=>h) (by rfl) (fun w hSw=>?_) hHeld ?_
   ·(try dsimp only at hSw)
    unfold oN06
    go_simp
   try simp only[oN06,Act.put,zA,zB,zC]
   refine tk 7 oN07 (.pointer (some ⟨w.heap.size,0,none⟩)) rfl (by kernel_rfl) (fun _ _ _ h=>h) (by rfl) (fun w hSw=>?_) hHeld ?_
   ·(try dsimp only at hSw)
    unfold oN07
    go_simp
   try simp only[oN07,Act.put,zA,zB,zC]
   refine tk 8 oN08 (.slice (some ⟨x.ga,0,none⟩) x.b.ac.length x.ca) rfl (by kernel_rfl) (fun _ _ _ h=>h) (by rfl) (fun w hSw=>?_) hHeld ?_
   ·(try dsimp only at hSw)
    unfold oN08
    go_simp
   try simp only[oN08,Act.put,zA,zB,zC]
   refine tk 9 oN09 (.int .i64 k) rfl (by kernel_rfl) (fun _ _ _ h=>h) (by rfl) (fun w hSw=>?_) hHeld ?_
   ·(try dsimp only at hSw)
    unfold oN09
    go_simp
   try simp only[oN09,Act.put,zA,zB,zC]
   refine tk 10 oN010 (.pointer (some ⟨x.ga,k*2,none⟩)) rfl (by kernel_rfl) (fun _ _ _ h=>h) (by rfl) (fun w hSw=>?_) hHeld ?_
   ·(try dsimp only at hSw)
    unfold oN010
    go_simp
   try simp only[oN010,Act.put,zA,zB,zC]
   refine tk 11 oN011 (.pointer (some ⟨x.ga,k*2+1,none⟩)) rfl (by kernel_rfl) (fun _ _ _ h=>h) (by rfl) (fun w hSw=>?_) hHeld ?_
   ·(try dsimp only at hSw)
    unfold oN011
    go_simp
   try simp only[oN011,Act.put,zA,zB,zC]
   refine tk 12 oN012 (.int .i64 p1) rfl (by kernel_rfl) (fun _ _ _ h=>h) (by rfl) (fun w hSw=>?_) hHeld ?_
   ·(try dsimp only at hSw)
    unfold oN012
    go_simp
   try simp only[oN012,Act.put,zA,zB,zC]
   have KB:(wr.drew.alloc (.cells #[.int .i64 p0,.int .i64 p1] 3)).cell? ⟨w.heap.size,0,none⟩=some (.slice (some ⟨x.ga,0,none⟩) x.b.ac.length x.ca)∧(wr.drew.alloc (.cells #[.int .i64 p0,.int .i64 p1] 3)).cell? ⟨x.ga,k*2,none⟩=some (.int .i64 p0)∧(wr.drew.alloc (.cells #[.int .i64 p0,.int .i64 p1] 3)).cell? ⟨x.ga,k*2+1,none⟩=some (.int .i64 p1):=⟨((one_more wr.drew (.cells #[.int .i64 p0,.int .i64 p1] 3)).cell (p:=⟨w.heap.size,0,none⟩) (show w.heap.size<wr.heap.size from(zu S1).s)).trans cf,((one_more wr.drew (.cells #[.int .i64 p0,.int .i64 p1] 3)).cell (p:=⟨x.ga,k*2,none⟩) (show x.ga<wr.heap.size from lg)).trans d0,((one_more wr.drew (.cells #[.int .i64 p0,.int .i64 p1] 3)).cell (p:=⟨x.ga,k*2+1,none⟩) (show x.ga<wr.heap.size from lg)).trans d1⟩
   refine wpAnyH_ready (rs:=[13]) (by kernel_rfl) (by simp) ?_
   refine AllReadyH.cons (o:=oN013) rfl (fun K hK=>?_) AllReadyH.nil
   unfold oN013
   go_simp
   refine hK.out _ _ KB (fun hHeld=>?_)
   clear hK K
   try simp only[oN013,Act.put,zA,zB,zC]
   refine wpAnyH_ready (rs:=[14]) (by kernel_rfl) (by simp) ?_
   refine AllReadyH.cons (o:=oN014) rfl (fun K hK=>?_) AllReadyH.nil
   refine step_catI _ (by rfl) _ _ (by rfl) W0.heap.size g n c 2 _ [p0,p1] wr.drew.heap.size 2 (by rfl) (by rfl) (by exact own_allocI (zu HO) _) (by rfl) (by exact lit2 wr.drew p0 p1) (by omega) (Nat.le_trans (show W0.heap.size≤wr.drew.heap.size from bs) (by simp)) ?_
   intro g9 c9 u9 o9 gr9 loc9
   have K9:u9.cell? ⟨w.heap.size,0,none⟩=some (.slice (some ⟨x.ga,0,none⟩) x.b.ac.length x.ca)∧u9.cell? ⟨x.ga,k*2,none⟩=some (.int .i64 p0)∧u9.cell? ⟨x.ga,k*2+1,none⟩=some (.int .i64 p1):=⟨gr9.cell KB.1 (fun e=>by injection e with e;simp at e;have:=(zu S0).s;omega),gr9.cell KB.2.1 (fun e=>by injection e with e;simp at e;have:=(zu XB).1.1;omega),gr9.cell KB.2.2 (fun e=>by injection e with e;simp at e;have:=(zu XB).1.1;omega)⟩
   have O9:=zh o9
   have B9:=zh (((zu HB).drew.alloc (show W0.heap.size≤wr.heap.size from bs) (.cells #[.int .i64 p0,.int .i64 p1] 3)).grown gr9 (Nat.le_trans (show W0.heap.size≤wr.drew.heap.size from bs) (by simp)) (fun j hj=>by cases hj;exact og.1))
   clear o9 gr9 loc9
   refine hK.out _ _ K9 (fun hHeld=>?_)
   clear hK K
   try simp only[oN014,Act.put,zA,zB,zC]
   refine tk 15 oN015 (.slice (some ⟨g9,0,none⟩) (n+2) c9) rfl (by kernel_rfl) (fun _ _ _ h=>h) (by rfl) (fun w hSw=>?_) hHeld ?_
   ·(try dsimp only at hSw)
    unfold oN015
    go_simp
   try simp only[oN015,Act.put,zA,zB,zC]
   refine wpAnyH_done (by kernel_rfl) ?_ _
   go_wp2
   go_roundw
   case rel=>exact⟨k+1,g9,c9,n+2,by go_num,by omega,rfl,by omega,zh (by rw[zu NX];first|exact zu O9|(rw[ws];exact zu O9)|(rw[←List.append_assoc];exact zu O9)|(rw[←List.append_assoc,ws];exact zu O9)),B9⟩
   case measure=>simp[intOf];omega
  ·have e:k=x.b.ac.length:=by omega
   subst e
   have O:=zu HO
   rw[List.take_length] at O
   have HO:=zh O
   clear O hk t
   have cg:=(zu S1).c.c1
   go_wp2_with (first|(at_builtin;refine wp_catI _ rfl _ _ rfl W0.heap.size g n c 1 _ [(x.b.ic.length:Int)] _ 1 rfl rfl (own_allocI (zu HO) _) rfl (lit1 _ _) (by omega) (by simp;omega) ?_)|go_in)
   intro g9 c9 u9 o9 gr9 loc9
   have O1:=zh (show Ints.Own u9 W0.heap.size g9 (n+1) c9 (A0++x.b.ac.flatMap row2++[(x.b.ic.length:Int)]) from by first|exact o9|(rw[List.append_assoc];exact o9)|(rw[ws];exact o9)|(rw[ws,List.append_assoc];exact o9))
   have B1:=zh (((zu HB).alloc bs (.cells #[.int .i64 (x.b.ic.length:Int)] 3)).grown gr9 (by simp;omega) (fun j hj=>by cases hj;exact og.1))
   have n9:n+1≤1+2*1048576+1:=by omega
   clear o9 gr9 loc9 HO HB S1 cf cg bs og
   generalize hA:A0++x.b.ac.flatMap row2++[(x.b.ic.length:Int)]=A1 at *
   have HA1:=zh hA
   clear hA
   go_wp2
   go_loopw [3,5] (fun l i wr=>∃(k g c n:Nat),i= .int .i64 k∧k≤x.b.ic.length∧l= .slice (some ⟨g,0,none⟩) n c∧n≤1+2*1048576+1+2*k∧Hid (Ints.Own wr W0.heap.size g n c (A1++(x.b.ic.take k).flatMap row2))∧Hid (Below W0.heap.size W0 wr)) (fun _ i _=>x.b.ic.length-(intOf i).toNat)
   case atStart=>exact⟨0,_,_,_,rfl,by omega,rfl,by omega,zh (by simpa using zu O1),B1⟩
   case round=>
    clear O1 B1
    obtain⟨k,g,c,n,rfl,hk,rfl,nk,HO,HB⟩:=hrel
    have bs:=(zu HB).size
    have og:=(zu HO).lt
    have S1:=zh ((zu S0).step (zu HB))
    have cf:=(zu S1).c.c1
    by_cases t:k<x.b.ic.length
    ·have kt:(k:Int)<x.b.ic.length:=by omega
     have d:=(zu S1).r.ri k t
     have lg:=(zu S1).r.li
     have NX:=zh (flat_more (f:=row2) ((0,0):Int×Int) t)
     change Hid (_=_++row2 (Chart.el x.b.ic k)) at NX
     change wr.cell? ⟨x.gi,k*2,none⟩=some (.int .i64 (Chart.el x.b.ic k).1)∧wr.cell? ⟨x.gi,k*2+1,none⟩=some (.int .i64 (Chart.el x.b.ic k).2) at d
     generalize Chart.el x.b.ic k=p at *
     obtain⟨p0,p1⟩:=p
     obtain⟨d0,d1⟩:=d
     have K0:wr.cell? ⟨w.heap.size,1,none⟩=some (.slice (some ⟨x.gi,0,none⟩) x.b.ic.length x.ci)∧wr.cell? ⟨x.gi,k*2,none⟩=some (.int .i64 p0)∧wr.cell? ⟨x.gi,k*2+1,none⟩=some (.int .i64 p1):=⟨cf,d0,d1⟩
     go_wp2_with fail
     refine wp_region_held_drew (S:=(fun w'=>w'.cell? ⟨w.heap.size,1,none⟩=some (.slice (some ⟨x.gi,0,none⟩) x.b.ic.length x.ci)∧w'.cell? ⟨x.gi,k*2,none⟩=some (.int .i64 p0)∧w'.cell? ⟨x.gi,k*2+1,none⟩=some (.int .i64 p1))) (by kernel_rfl) K0 (fun hHeld=>?_)
     refine tk 0 oN10 (.slice (some ⟨g,0,none⟩) n c) rfl (by kernel_rfl) (fun _ _ _ h=>h) (by rfl) (fun w hSw=>?_) hHeld ?_
     ·(try dsimp only at hSw)
      unfold oN10
      go_simp
     try simp only[oN10,Act.put,zA,zB,zC]
     refine tk 1 oN11 (.pointer (some ⟨w.heap.size,1,none⟩)) rfl (by kernel_rfl) (fun _ _ _ h=>h) (by rfl) (fun w hSw=>?_) hHeld ?_
     ·(try dsimp only at hSw)
      unfold oN11
      go_simp
     try simp only[oN11,Act.put,zA,zB,zC]
     refine tk 2 oN12 (.slice (some ⟨x.gi,0,none⟩) x.b.ic.length x.ci) rfl (by kernel_rfl) (fun _ _ _ h=>h) (by rfl) (fun w hSw=>?_) hHeld ?_
     ·(try dsimp only at hSw)
      unfold oN12
      go_simp
     try simp only[oN12,Act.put,zA,zB,zC]
     refine tk 3 oN13 (.int .i64 k) rfl (by kernel_rfl) (fun _ _ _ h=>h) (by rfl) (fun w hSw=>?_) hHeld ?_
     ·(try dsimp only at hSw)
      unfold oN13
      go_simp
     try simp only[oN13,Act.put,zA,zB,zC]
     refine tk 4 oN14 (.pointer (some ⟨x.gi,k*2,none⟩)) rfl (by kernel_rfl) (fun _ _ _ h=>h) (by rfl) (fun w hSw=>?_) hHeld ?_
     ·(try dsimp only at hSw)
      unfold oN14
      go_simp
     try simp only[oN14,Act.put,zA,zB,zC]
     refine tk 5 oN15 (.pointer (some ⟨x.gi,k*2,none⟩)) rfl (by kernel_rfl) (fun _ _ _ h=>h) (by rfl) (fun w hSw=>?_) hHeld ?_
     ·(try dsimp only at hSw)
      unfold oN15
      go_simp
     try simp only[oN15,Act.put,zA,zB,zC]
     refine tk 6 oN16 (.int .i64 p0) rfl (by kernel_rfl) (fun _ _ _ h=>h) (by rfl) (fun w hSw=>?_) hHeld ?_
     ·(try dsimp only at hSw)
      unfold oN16
      go_simp
     try simp only[oN16,Act.put,zA,zB,zC]
     refine tk 7 oN17 (.pointer (some ⟨w.heap.size,1,none⟩)) rfl (by kernel_rfl) (fun _ _ _ h=>h) (by rfl) (fun w hSw=>?_) hHeld ?_
     ·(try dsimp only at hSw)
      unfold oN17
      go_simp
     try simp only[oN17,Act.put,zA,zB,zC]
     refine tk 8 oN18 (.slice (some ⟨x.gi,0,none⟩) x.b.ic.length x.ci) rfl (by kernel_rfl) (fun _ _ _ h=>h) (by rfl) (fun w hSw=>?_) hHeld ?_
     ·(try dsimp only at hSw)
      unfold oN18
      go_simp
     try simp only[oN18,Act.put,zA,zB,zC]
     refine tk 9 oN19 (.int .i64 k) rfl (by kernel_rfl) (fun _ _ _ h=>h) (by rfl) (fun w hSw=>?_) hHeld ?_
     ·(try dsimp only at hSw)
      unfold oN19
      go_simp
     try simp only[oN19,Act.put,zA,zB,zC]
     refine tk 10 oN110 (.pointer (some ⟨x.gi,k*2,none⟩)) rfl (by kernel_rfl) (fun _ _ _ h=>h) (by rfl) (fun w hSw=>?_) hHeld ?_
     ·(try dsimp only at hSw)
      unfold oN110
      go_simp
     try simp only[oN110,Act.put,zA,zB,zC]
     refine tk 11 oN111 (.pointer (some ⟨x.gi,k*2+1,none⟩)) rfl (by kernel_rfl) (fun _ _ _ h=>h) (by rfl) (fun w hSw=>?_) hHeld ?_
     ·(try dsimp only at hSw)
      unfold oN111
      go_simp
     try simp only[oN111,Act.put,zA,zB,zC]
     refine tk 12 oN112 (.int .i64 p1) rfl (by kernel_rfl) (fun _ _ _ h=>h) (by rfl) (fun w hSw=>?_) hHeld ?_
     ·(try dsimp only at hSw)
      unfold oN112
      go_simp
     try simp only[oN112,Act.put,zA,zB,zC]
     have KB:(wr.drew.alloc (.cells #[.int .i64 p0,.int .i64 p1] 3)).cell? ⟨w.heap.size,1,none⟩=some (.slice (some ⟨x.gi,0,none⟩) x.b.ic.length x.ci)∧(wr.drew.alloc (.cells #[.int .i64 p0,.int .i64 p1] 3)).cell? ⟨x.gi,k*2,none⟩=some (.int .i64 p0)∧(wr.drew.alloc (.cells #[.int .i64 p0,.int .i64 p1] 3)).cell? ⟨x.gi,k*2+1,none⟩=some (.int .i64 p1):=⟨((one_more wr.drew (.cells #[.int .i64 p0,.int .i64 p1] 3)).cell (p:=⟨w.heap.size,1,none⟩) (show w.heap.size<wr.heap.size from(zu S1).s)).trans cf,((one_more wr.drew (.cells #[.int .i64 p0,.int .i64 p1] 3)).cell (p:=⟨x.gi,k*2,none⟩) (show x.gi<wr.heap.size from lg)).trans d0,((one_more wr.drew (.cells #[.int .i64 p0,.int .i64 p1] 3)).cell (p:=⟨x.gi,k*2+1,none⟩) (show x.gi<wr.heap.size from lg)).trans d1⟩
     refine wpAnyH_ready (rs:=[13]) (by kernel_rfl) (by simp) ?_
     refine AllReadyH.cons (o:=oN113) rfl (fun K hK=>?_) AllReadyH.nil
     unfold oN113
     go_simp
     refine hK.out _ _ KB (fun hHeld=>?_)
     clear hK K
     try simp only[oN113,Act.put,zA,zB,zC]
     refine wpAnyH_ready (rs:=[14]) (by kernel_rfl) (by simp) ?_
     refine AllReadyH.cons (o:=oN114) rfl (fun K hK=>?_) AllReadyH.nil
     refine step_catI _ (by rfl) _ _ (by rfl) W0.heap.size g n c 2 _ [p0,p1] wr.drew.heap.size 2 (by rfl) (by rfl) (by exact own_allocI (zu HO) _) (by rfl) (by exact lit2 wr.drew p0 p1) (by omega) (Nat.le_trans (show W0.heap.size≤wr.drew.heap.size from bs) (by simp)) ?_
     intro g9 c9 u9 o9 gr9 loc9
     have K9:u9.cell? ⟨w.heap.size,1,none⟩=some (.slice (some ⟨x.gi,0,none⟩) x.b.ic.length x.ci)∧u9.cell? ⟨x.gi,k*2,none⟩=some (.int .i64 p0)∧u9.cell? ⟨x.gi,k*2+1,none⟩=some (.int .i64 p1):=⟨gr9.cell KB.1 (fun e=>by injection e with e;simp at e;have:=(zu S0).s;omega),gr9.cell KB.2.1 (fun e=>by injection e with e;simp at e;have:=(zu XB).1.2;omega),gr9.cell KB.2.2 (fun e=>by injection e with e;simp at e;have:=(zu XB).1.2;omega)⟩
     have O9:=zh o9
     have B9:=zh (((zu HB).drew.alloc (show W0.heap.size≤wr.heap.size from bs) (.cells #[.int .i64 p0,.int .i64 p1] 3)).grown gr9 (Nat.le_trans (show W0.heap.size≤wr.drew.heap.size from bs) (by simp)) (fun j hj=>by cases hj;exact og.1))
     clear o9 gr9 loc9
     refine hK.out _ _ K9 (fun hHeld=>?_)
     clear hK K
     try simp only[oN114,Act.put,zA,zB,zC]
     refine tk 15 oN115 (.slice (some ⟨g9,0,none⟩) (n+2) c9) rfl (by kernel_rfl) (fun _ _ _ h=>h) (by rfl) (fun w hSw=>?_) hHeld ?_
     ·(try dsimp only at hSw)
      unfold oN115
      go_simp
     try simp only[oN115,Act.put,zA,zB,zC]
     refine wpAnyH_done (by kernel_rfl) ?_ _
     go_wp2
     go_roundw
     case rel=>exact⟨k+1,g9,c9,n+2,by go_num,by omega,rfl,by omega,zh (by rw[zu NX];first|exact zu O9|(rw[ws];exact zu O9)|(rw[←List.append_assoc];exact zu O9)|(rw[←List.append_assoc,ws];exact zu O9)),B9⟩
     case measure=>simp[intOf];omega
    ·have e:k=x.b.ic.length:=by omega
     subst e
     have O:=zu HO
     rw[List.take_length] at O
     have HO:=zh O
     clear O hk t
     have cg:=(zu S1).c.c2
     go_wp2_with (first|(at_builtin;refine wp_catI _ rfl _ _ rfl W0.heap.size g n c 1 _ [(x.b.bs.length:Int)] _ 1 rfl rfl (own_allocI (zu HO) _) rfl (lit1 _ _) (by omega) (by simp;omega) ?_)|go_in)
     intro g9 c9 u9 o9 gr9 loc9
     have O2:=zh (show Ints.Own u9 W0.heap.size g9 (n+1) c9 (A1++x.b.ic.flatMap row2++[(x.b.bs.length:Int)]) from by first|exact o9|(rw[List.append_assoc];exact o9)|(rw[ws];exact o9)|(rw[ws,List.append_assoc];exact o9))
     have B2:=zh (((zu HB).alloc bs (.cells #[.int .i64 (x.b.bs.length:Int)] 3)).grown gr9 (by simp;omega) (fun j hj=>by cases hj;exact og.1))
     have n9:n+1≤1+2*1048576+1+2*1048576+1:=by omega
     clear o9 gr9 loc9 HO HB S1 cf cg bs og
     generalize hA:A1++x.b.ic.flatMap row2++[(x.b.bs.length:Int)]=A2 at *
     have HA2:=zh hA
     clear hA
     go_wp2
     go_loopw [3,6] (fun l i wr=>∃(k g c n:Nat),i= .int .i64 k∧k≤x.b.bs.length∧l= .slice (some ⟨g,0,none⟩) n c∧n≤1+2*1048576+1+2*1048576+1+3*k∧Hid (Ints.Own wr W0.heap.size g n c (A2++(x.b.bs.take k).flatMap row3))∧Hid (Below W0.heap.size W0 wr)) (fun _ i _=>x.b.bs.length-(intOf i).toNat)
     case atStart=>exact⟨0,_,_,_,rfl,by omega,rfl,by omega,zh (by simpa using zu O2),B2⟩
     case round=>
      clear O2 B2
      obtain⟨k,g,c,n,rfl,hk,rfl,nk,HO,HB⟩:=hrel
      have bs:=(zu HB).size
      have og:=(zu HO).lt
      have S1:=zh ((zu S0).step (zu HB))
      have cf:=(zu S1).c.c2
      by_cases t:k<x.b.bs.length
      ·have kt:(k:Int)<x.b.bs.length:=by omega
       have d:=(zu S1).r.rb k t
       have lg:=(zu S1).r.lb
       have NX:=zh (flat_more (f:=row3) ((0,0,0):T3) t)
       change Hid (_=_++row3 (el3 x.b.bs k)) at NX
       have am:=(zu HA) k t
       change wr.cell? ⟨x.gb,k*3,none⟩=some (.int .i64 (el3 x.b.bs k).1)∧wr.cell? ⟨x.gb,k*3+1,none⟩=some (.int .i64 (el3 x.b.bs k).2.1)∧wr.cell? ⟨x.gb,k*3+2,none⟩=some (.int .i64 (el3 x.b.bs k).2.2) at d
       generalize el3 x.b.bs k=p at *
       obtain⟨p0,p1,p2⟩:=p
       obtain⟨d0,d1,d2⟩:=d
       have am1:wrap64 (p2+1000000000000000)=p2+1000000000000000:=by rw[wrap64];simp only at am;omega
       have am2:IntKind.i64.wrap (p2+1000000000000000)=p2+1000000000000000:=by rw[IntKind.wrap_i64];simp only at am;omega
       have K0:wr.cell? ⟨w.heap.size,2,none⟩=some (.slice (some ⟨x.gb,0,none⟩) x.b.bs.length x.cb)∧wr.cell? ⟨x.gb,k*3,none⟩=some (.int .i64 p0)∧wr.cell? ⟨x.gb,k*3+1,none⟩=some (.int .i64 p1)∧wr.cell? ⟨x.gb,k*3+2,none⟩=some (.int .i64 p2):=⟨cf,d0,d1,d2⟩
       go_wp2_with fail
       refine wp_region_held_drew (S:=(fun w'=>w'.cell? ⟨w.heap.size,2,none⟩=some (.slice (some ⟨x.gb,0,none⟩) x.b.bs.length x.cb)∧w'.cell? ⟨x.gb,k*3,none⟩=some (.int .i64 p0)∧w'.cell? ⟨x.gb,k*3+1,none⟩=some (.int .i64 p1)∧w'.cell? ⟨x.gb,k*3+2,none⟩=some (.int .i64 p2))) (by kernel_rfl) K0 (fun hHeld=>?_)
       refine tk 0 oN20 (.slice (some ⟨g,0,none⟩) n c) rfl (by kernel_rfl) (fun _ _ _ h=>h) (by rfl) (fun w hSw=>?_) hHeld ?_
       ·(try dsimp only at hSw)
        unfold oN20
        go_simp
       try simp only[oN20,Act.put,zA,zB,zC]
       refine tk 1 oN21 (.pointer (some ⟨w.heap.size,2,none⟩)) rfl (by kernel_rfl) (fun _ _ _ h=>h) (by rfl) (fun w hSw=>?_) hHeld ?_
       ·(try dsimp only at hSw)
        unfold oN21
        go_simp
       try simp only[oN21,Act.put,zA,zB,zC]
       refine tk 2 oN22 (.slice (some ⟨x.gb,0,none⟩) x.b.bs.length x.cb) rfl (by kernel_rfl) (fun _ _ _ h=>h) (by rfl) (fun w hSw=>?_) hHeld ?_
       ·(try dsimp only at hSw)
        unfold oN22
        go_simp
       try simp only[oN22,Act.put,zA,zB,zC]
       refine tk 3 oN23 (.int .i64 k) rfl (by kernel_rfl) (fun _ _ _ h=>h) (by rfl) (fun w hSw=>?_) hHeld ?_
       ·(try dsimp only at hSw)
        unfold oN23
        go_simp
       try simp only[oN23,Act.put,zA,zB,zC]
       refine tk 4 oN24 (.pointer (some ⟨x.gb,k*3,none⟩)) rfl (by kernel_rfl) (fun _ _ _ h=>h) (by rfl) (fun w hSw=>?_) hHeld ?_
       ·(try dsimp only at hSw)
        unfold oN24
        go_simp
       try simp only[oN24,Act.put,zA,zB,zC]
       refine tk 5 oN25 (.pointer (some ⟨x.gb,k*3,none⟩)) rfl (by kernel_rfl) (fun _ _ _ h=>h) (by rfl) (fun w hSw=>?_) hHeld ?_
       ·(try dsimp only at hSw)
        unfold oN25
        go_simp
       try simp only[oN25,Act.put,zA,zB,zC]
       refine tk 6 oN26 (.int .i64 p0) rfl (by kernel_rfl) (fun _ _ _ h=>h) (by rfl) (fun w hSw=>?_) hHeld ?_
       ·(try dsimp only at hSw)
        unfold oN26
        go_simp
       try simp only[oN26,Act.put,zA,zB,zC]
       refine tk 7 oN27 (.pointer (some ⟨w.heap.size,2,none⟩)) rfl (by kernel_rfl) (fun _ _ _ h=>h) (by rfl) (fun w hSw=>?_) hHeld ?_
       ·(try dsimp only at hSw)
        unfold oN27
        go_simp
       try simp only[oN27,Act.put,zA,zB,zC]
       refine tk 8 oN28 (.slice (some ⟨x.gb,0,none⟩) x.b.bs.length x.cb) rfl (by kernel_rfl) (fun _ _ _ h=>h) (by rfl) (fun w hSw=>?_) hHeld ?_
       ·(try dsimp only at hSw)
        unfold oN28
        go_simp
       try simp only[oN28,Act.put,zA,zB,zC]
       refine tk 9 oN29 (.int .i64 k) rfl (by kernel_rfl) (fun _ _ _ h=>h) (by rfl) (fun w hSw=>?_) hHeld ?_
       ·(try dsimp only at hSw)
        unfold oN29
        go_simp
       try simp only[oN29,Act.put,zA,zB,zC]
       refine tk 10 oN210 (.pointer (some ⟨x.gb,k*3,none⟩)) rfl (by kernel_rfl) (fun _ _ _ h=>h) (by rfl) (fun w hSw=>?_) hHeld ?_
       ·(try dsimp only at hSw)
        unfold oN210
        go_simp
       try simp only[oN210,Act.put,zA,zB,zC]
       refine tk 11 oN211 (.pointer (some ⟨x.gb,k*3+1,none⟩)) rfl (by kernel_rfl) (fun _ _ _ h=>h) (by rfl) (fun w hSw=>?_) hHeld ?_
       ·(try dsimp only at hSw)
        unfold oN211
        go_simp
       try simp only[oN211,Act.put,zA,zB,zC]
       refine tk 12 oN212 (.int .i64 p1) rfl (by kernel_rfl) (fun _ _ _ h=>h) (by rfl) (fun w hSw=>?_) hHeld ?_
       ·(try dsimp only at hSw)
        unfold oN212
        go_simp
       try simp only[oN212,Act.put,zA,zB,zC]
       refine tk 13 oN213 (.pointer (some ⟨w.heap.size,2,none⟩)) rfl (by kernel_rfl) (fun _ _ _ h=>h) (by rfl) (fun w hSw=>?_) hHeld ?_
       ·(try dsimp only at hSw)
        unfold oN213
        go_simp
       try simp only[oN213,Act.put,zA,zB,zC]
       refine tk 14 oN214 (.slice (some ⟨x.gb,0,none⟩) x.b.bs.length x.cb) rfl (by kernel_rfl) (fun _ _ _ h=>h) (by rfl) (fun w hSw=>?_) hHeld ?_
       ·(try dsimp only at hSw)
        unfold oN214
        go_simp
       try simp only[oN214,Act.put,zA,zB,zC]
       refine tk 15 oN215 (.int .i64 k) rfl (by kernel_rfl) (fun _ _ _ h=>h) (by rfl) (fun w hSw=>?_) hHeld ?_
       ·(try dsimp only at hSw)
        unfold oN215
        go_simp
       try simp only[oN215,Act.put,zA,zB,zC]
       refine tk 16 oN216 (.pointer (some ⟨x.gb,k*3,none⟩)) rfl (by kernel_rfl) (fun _ _ _ h=>h) (by rfl) (fun w hSw=>?_) hHeld ?_
       ·(try dsimp only at hSw)
        unfold oN216
        go_simp
       try simp only[oN216,Act.put,zA,zB,zC]
       refine tk 17 oN217 (.pointer (some ⟨x.gb,k*3+2,none⟩)) rfl (by kernel_rfl) (fun _ _ _ h=>h) (by rfl) (fun w hSw=>?_) hHeld ?_
       ·(try dsimp only at hSw)
        unfold oN217
        go_simp
       try simp only[oN217,Act.put,zA,zB,zC]
       refine tk 18 oN218 (.int .i64 p2) rfl (by kernel_rfl) (fun _ _ _ h=>h) (by rfl) (fun w hSw=>?_) hHeld ?_
       ·(try dsimp only at hSw)
        unfold oN218
        go_simp
       try simp only[oN218,Act.put,zA,zB,zC]
       refine tk 19 oN219 (.int .i64 (p2+1000000000000000)) rfl (by kernel_rfl) (fun _ _ _ h=>h) (by rfl) (fun w hSw=>?_) hHeld ?_
       ·(try dsimp only at hSw)
        unfold oN219
        go_simp
       try simp only[oN219,Act.put,zA,zB,zC]
       have KB:(wr.drew.alloc (.cells #[.int .i64 p0,.int .i64 p1,.int .i64 (p2+1000000000000000)] 3)).cell? ⟨w.heap.size,2,none⟩=some (.slice (some ⟨x.gb,0,none⟩) x.b.bs.length x.cb)∧(wr.drew.alloc (.cells #[.int .i64 p0,.int .i64 p1,.int .i64 (p2+1000000000000000)] 3)).cell? ⟨x.gb,k*3,none⟩=some (.int .i64 p0)∧(wr.drew.alloc (.cells #[.int .i64 p0,.int .i64 p1,.int .i64 (p2+1000000000000000)] 3)).cell? ⟨x.gb,k*3+1,none⟩=some (.int .i64 p1)∧(wr.drew.alloc (.cells #[.int .i64 p0,.int .i64 p1,.int .i64 (p2+1000000000000000)] 3)).cell? ⟨x.gb,k*3+2,none⟩=some (.int .i64 p2):=⟨((one_more wr.drew (.cells #[.int .i64 p0,.int .i64 p1,.int .i64 (p2+1000000000000000)] 3)).cell (p:=⟨w.heap.size,2,none⟩) (show w.heap.size<wr.heap.size from(zu S1).s)).trans cf,((one_more wr.drew (.cells #[.int .i64 p0,.int .i64 p1,.int .i64 (p2+1000000000000000)] 3)).cell (p:=⟨x.gb,k*3,none⟩) (show x.gb<wr.heap.size from lg)).trans d0,((one_more wr.drew (.cells #[.int .i64 p0,.int .i64 p1,.int .i64 (p2+1000000000000000)] 3)).cell (p:=⟨x.gb,k*3+1,none⟩) (show x.gb<wr.heap.size from lg)).trans d1,((one_more wr.drew (.cells #[.int .i64 p0,.int .i64 p1,.int .i64 (p2+1000000000000000)] 3)).cell (p:=⟨x.gb,k*3+2,none⟩) (show x.gb<wr.heap.size from lg)).trans d2⟩
       refine wpAnyH_ready (rs:=[20]) (by kernel_rfl) (by simp) ?_
       refine AllReadyH.cons (o:=oN220) rfl (fun K hK=>?_) AllReadyH.nil
       unfold oN220
       go_simp
       refine hK.out _ _ KB (fun hHeld=>?_)
       clear hK K
       try simp only[oN220,Act.put,zA,zB,zC]
       refine wpAnyH_ready (rs:=[21]) (by kernel_rfl) (by simp) ?_
       refine AllReadyH.cons (o:=oN221) rfl (fun K hK=>?_) AllReadyH.nil
       refine step_catI _ (by rfl) _ _ (by rfl) W0.heap.size g n c 3 _ [p0,p1,(p2+1000000000000000)] wr.drew.heap.size 3 (by rfl) (by rfl) (by exact own_allocI (zu HO) _) (by rfl) (by exact lit3 wr.drew p0 p1 (p2+1000000000000000)) (by omega) (Nat.le_trans (show W0.heap.size≤wr.drew.heap.size from bs) (by simp)) ?_
       intro g9 c9 u9 o9 gr9 loc9
       have K9:u9.cell? ⟨w.heap.size,2,none⟩=some (.slice (some ⟨x.gb,0,none⟩) x.b.bs.length x.cb)∧u9.cell? ⟨x.gb,k*3,none⟩=some (.int .i64 p0)∧u9.cell? ⟨x.gb,k*3+1,none⟩=some (.int .i64 p1)∧u9.cell? ⟨x.gb,k*3+2,none⟩=some (.int .i64 p2):=⟨gr9.cell KB.1 (fun e=>by injection e with e;simp at e;have:=(zu S0).s;omega),gr9.cell KB.2.1 (fun e=>by injection e with e;simp at e;have:=(zu XB).2;omega),gr9.cell KB.2.2.1 (fun e=>by injection e with e;simp at e;have:=(zu XB).2;omega),gr9.cell KB.2.2.2 (fun e=>by injection e with e;simp at e;have:=(zu XB).2;omega)⟩
       have O9:=zh o9
       have B9:=zh (((zu HB).drew.alloc (show W0.heap.size≤wr.heap.size from bs) (.cells #[.int .i64 p0,.int .i64 p1,.int .i64 (p2+1000000000000000)] 3)).grown gr9 (Nat.le_trans (show W0.heap.size≤wr.drew.heap.size from bs) (by simp)) (fun j hj=>by cases hj;exact og.1))
       clear o9 gr9 loc9
       refine hK.out _ _ K9 (fun hHeld=>?_)
       clear hK K
       try simp only[oN221,Act.put,zA,zB,zC]
       refine tk 22 oN222 (.slice (some ⟨g9,0,none⟩) (n+3) c9) rfl (by kernel_rfl) (fun _ _ _ h=>h) (by rfl) (fun w hSw=>?_) hHeld ?_
       ·(try dsimp only at hSw)
        unfold oN222
        go_simp
       try simp only[oN222,Act.put,zA,zB,zC]
       refine wpAnyH_done (by kernel_rfl) ?_ _
       go_wp2
       go_roundw
       case rel=>exact⟨k+1,g9,c9,n+3,by go_num,by omega,rfl,by omega,zh (by rw[zu NX];first|exact zu O9|(rw[ws];exact zu O9)|(rw[←List.append_assoc];exact zu O9)|(rw[←List.append_assoc,ws];exact zu O9)),B9⟩
       case measure=>simp[intOf];omega
      ·have e:k=x.b.bs.length:=by omega
       subst e
       have O:=zu HO
       rw[List.take_length] at O
       have HO:=zh O
       clear O hk t
       have cg:=(zu S1).c.c3
       go_wp2_with (first|(at_builtin;refine wp_catI _ rfl _ _ rfl W0.heap.size g n c 1 _ [(x.b.ls.length:Int)] _ 1 rfl rfl (own_allocI (zu HO) _) rfl (lit1 _ _) (by omega) (by simp;omega) ?_)|go_in)
       intro g9 c9 u9 o9 gr9 loc9
       have O3:=zh (show Ints.Own u9 W0.heap.size g9 (n+1) c9 (A2++x.b.bs.flatMap row3++[(x.b.ls.length:Int)]) from by first|exact o9|(rw[List.append_assoc];exact o9)|(rw[ws];exact o9)|(rw[ws,List.append_assoc];exact o9))
       have B3:=zh (((zu HB).alloc bs (.cells #[.int .i64 (x.b.ls.length:Int)] 3)).grown gr9 (by simp;omega) (fun j hj=>by cases hj;exact og.1))
       have n9:n+1≤1+2*1048576+1+2*1048576+1+3*1048576+1:=by omega
       clear o9 gr9 loc9 HO HB S1 cf cg bs og
       generalize hA:A2++x.b.bs.flatMap row3++[(x.b.ls.length:Int)]=A3 at *
       have HA3:=zh hA
       clear hA
       go_wp2
       go_loopw [3,7,8] (fun l i _ wr=>∃(k g c n:Nat),i= .int .i64 k∧k≤x.b.ls.length∧l= .slice (some ⟨g,0,none⟩) n c∧n≤1+2*1048576+1+2*1048576+1+3*1048576+1+5*k∧Hid (Ints.Own wr W0.heap.size g n c (A3++(x.b.ls.take k).flatMap row5))∧Hid (Below W0.heap.size W0 wr)) (fun _ i _ _=>x.b.ls.length-(intOf i).toNat)
       case atStart=>exact⟨0,_,_,_,rfl,by omega,rfl,by omega,zh (by simpa using zu O3),B3⟩
       case round=>
        clear O3 B3
        obtain⟨k,g,c,n,rfl,hk,rfl,nk,HO,HB⟩:=hrel
        have bs:=(zu HB).size
        have og:=(zu HO).lt
        have S1:=zh ((zu S0).step (zu HB))
        have cf:=(zu S1).c.c3
        by_cases t:k<x.b.ls.length
        ·have kt:(k:Int)<x.b.ls.length:=by omega
         have d:=(zu S1).r.rl k t
         have lg:=(zu S1).r.ll
         have NX:=zh (flat_more (f:=row5) ((0,0,0,0,0):T5) t)
         change Hid (_=_++row5 (el5 x.b.ls k)) at NX
         change wr.cell? ⟨x.gl,k*5,none⟩=some (.int .i64 (el5 x.b.ls k).1)∧wr.cell? ⟨x.gl,k*5+1,none⟩=some (.int .i64 (el5 x.b.ls k).2.1)∧wr.cell? ⟨x.gl,k*5+2,none⟩=some (.int .i64 (el5 x.b.ls k).2.2.1)∧wr.cell? ⟨x.gl,k*5+3,none⟩=some (.int .i64 (el5 x.b.ls k).2.2.2.1)∧wr.cell? ⟨x.gl,k*5+4,none⟩=some (.int .i64 (el5 x.b.ls k).2.2.2.2) at d
         generalize el5 x.b.ls k=p at *
         obtain⟨p0,p1,p2,p3,p4⟩:=p
         obtain⟨d0,d1,d2,d3,d4⟩:=d
         have LL:=zh (lit5 (wr.alloc (.cells #[.int .i64 p0,.int .i64 p1,.int .i64 p2,.int .i64 p3,.int .i64 p4] 148)) p0 p1 p2 p3 p4)
         rw[show(wr.alloc (.cells #[.int .i64 p0,.int .i64 p1,.int .i64 p2,.int .i64 p3,.int .i64 p4] 148)).heap.size=wr.heap.size+1 by simp] at LL
         go_wp2_with (first|(at_builtin;refine wp_catI _ rfl _ _ rfl W0.heap.size g n c 5 _ [p0,p1,p2,p3,p4] (wr.heap.size+1) 5 rfl rfl (own_allocI (own_allocI (zu HO) _) _) rfl (zu LL) (by omega) (by simp;omega) ?_)|go_in)
         intro g9 c9 u9 o9 gr9 loc9
         have O9:=zh o9
         have B9:=zh ((((zu HB).alloc bs (.cells #[.int .i64 p0,.int .i64 p1,.int .i64 p2,.int .i64 p3,.int .i64 p4] 148)).alloc (by simp;omega) (.cells #[.int .i64 p0,.int .i64 p1,.int .i64 p2,.int .i64 p3,.int .i64 p4] 3)).grown gr9 (by simp;omega) (fun j hj=>by cases hj;exact og.1))
         clear o9 gr9 loc9
         go_wp2
         go_roundw
         case rel=>exact⟨k+1,g9,c9,n+5,by go_num,by omega,rfl,by omega,zh (by rw[zu NX];first|exact zu O9|(rw[ws];exact zu O9)|(rw[←List.append_assoc];exact zu O9)|(rw[←List.append_assoc,ws];exact zu O9)),B9⟩
         case measure=>simp[intOf];omega
        ·have e:k=x.b.ls.length:=by omega
         subst e
         have O:=zu HO
         rw[List.take_length] at O
         have HO:=zh O
         clear O hk t
         have cg:=(zu S1).c.c4
         go_wp2_with (first|(at_builtin;refine wp_catI _ rfl _ _ rfl W0.heap.size g n c 1 _ [(x.b.ts.length:Int)] _ 1 rfl rfl (own_allocI (zu HO) _) rfl (lit1 _ _) (by omega) (by simp;omega) ?_)|go_in)
         intro g9 c9 u9 o9 gr9 loc9
         have O4:=zh (show Ints.Own u9 W0.heap.size g9 (n+1) c9 (A3++x.b.ls.flatMap row5++[(x.b.ts.length:Int)]) from by first|exact o9|(rw[List.append_assoc];exact o9)|(rw[ws];exact o9)|(rw[ws,List.append_assoc];exact o9))
         have B4:=zh (((zu HB).alloc bs (.cells #[.int .i64 (x.b.ts.length:Int)] 3)).grown gr9 (by simp;omega) (fun j hj=>by cases hj;exact og.1))
         have n9:n+1≤1+2*1048576+1+2*1048576+1+3*1048576+1+5*1048576+1:=by omega
         clear o9 gr9 loc9 HO HB S1 cf cg bs og
         generalize hA:A3++x.b.ls.flatMap row5++[(x.b.ts.length:Int)]=A4 at *
         have HA4:=zh hA
         clear hA
         go_wp2
         go_loopw [3,9,10] (fun l i _ wr=>∃(k g c n:Nat),i= .int .i64 k∧k≤x.b.ts.length∧l= .slice (some ⟨g,0,none⟩) n c∧n≤1+2*1048576+1+2*1048576+1+3*1048576+1+5*1048576+1+8*k∧Hid (Ints.Own wr W0.heap.size g n c (A4++(x.b.ts.take k).flatMap row8))∧Hid (Below W0.heap.size W0 wr)) (fun _ i _ _=>x.b.ts.length-(intOf i).toNat)
         case atStart=>exact⟨0,_,_,_,rfl,by omega,rfl,by omega,zh (by simpa using zu O4),B4⟩
         case round=>
          clear O4 B4
          obtain⟨k,g,c,n,rfl,hk,rfl,nk,HO,HB⟩:=hrel
          have bs:=(zu HB).size
          have og:=(zu HO).lt
          have S1:=zh ((zu S0).step (zu HB))
          have cf:=(zu S1).c.c4
          by_cases t:k<x.b.ts.length
          ·have kt:(k:Int)<x.b.ts.length:=by omega
           have d:=(zu S1).r.rt k t
           have lg:=(zu S1).r.lt
           have NX:=zh (flat_more (f:=row8) ((0,0,0,0,0,0,0,0):T8) t)
           change Hid (_=_++row8 (el8 x.b.ts k)) at NX
           change wr.cell? ⟨x.gt,k*8,none⟩=some (.int .i64 (el8 x.b.ts k).1)∧wr.cell? ⟨x.gt,k*8+1,none⟩=some (.int .i64 (el8 x.b.ts k).2.1)∧wr.cell? ⟨x.gt,k*8+2,none⟩=some (.int .i64 (el8 x.b.ts k).2.2.1)∧wr.cell? ⟨x.gt,k*8+3,none⟩=some (.int .i64 (el8 x.b.ts k).2.2.2.1)∧wr.cell? ⟨x.gt,k*8+4,none⟩=some (.int .i64 (el8 x.b.ts k).2.2.2.2.1)∧wr.cell? ⟨x.gt,k*8+5,none⟩=some (.int .i64 (el8 x.b.ts k).2.2.2.2.2.1)∧wr.cell? ⟨x.gt,k*8+6,none⟩=some (.int .i64 (el8 x.b.ts k).2.2.2.2.2.2.1)∧wr.cell? ⟨x.gt,k*8+7,none⟩=some (.int .i64 (el8 x.b.ts k).2.2.2.2.2.2.2) at d
           generalize el8 x.b.ts k=p at *
           obtain⟨p0,p1,p2,p3,p4,p5,p6,p7⟩:=p
           obtain⟨d0,d1,d2,d3,d4,d5,d6,d7⟩:=d
           have LL:=zh (lit8 (wr.alloc (.cells #[.int .i64 p0,.int .i64 p1,.int .i64 p2,.int .i64 p3,.int .i64 p4,.int .i64 p5,.int .i64 p6,.int .i64 p7] 141)) p0 p1 p2 p3 p4 p5 p6 p7)
           rw[show(wr.alloc (.cells #[.int .i64 p0,.int .i64 p1,.int .i64 p2,.int .i64 p3,.int .i64 p4,.int .i64 p5,.int .i64 p6,.int .i64 p7] 141)).heap.size=wr.heap.size+1 by simp] at LL
           go_wp2_with (first|(at_builtin;refine wp_catI _ rfl _ _ rfl W0.heap.size g n c 8 _ [p0,p1,p2,p3,p4,p5,p6,p7] (wr.heap.size+1) 8 rfl rfl (own_allocI (own_allocI (zu HO) _) _) rfl (zu LL) (by omega) (by simp;omega) ?_)|go_in)
           intro g9 c9 u9 o9 gr9 loc9
           have O9:=zh o9
           have B9:=zh ((((zu HB).alloc bs (.cells #[.int .i64 p0,.int .i64 p1,.int .i64 p2,.int .i64 p3,.int .i64 p4,.int .i64 p5,.int .i64 p6,.int .i64 p7] 141)).alloc (by simp;omega) (.cells #[.int .i64 p0,.int .i64 p1,.int .i64 p2,.int .i64 p3,.int .i64 p4,.int .i64 p5,.int .i64 p6,.int .i64 p7] 3)).grown gr9 (by simp;omega) (fun j hj=>by cases hj;exact og.1))
           clear o9 gr9 loc9
           go_wp2
           go_roundw
           case rel=>exact⟨k+1,g9,c9,n+8,by go_num,by omega,rfl,by omega,zh (by rw[zu NX];first|exact zu O9|(rw[ws];exact zu O9)|(rw[←List.append_assoc];exact zu O9)|(rw[←List.append_assoc,ws];exact zu O9)),B9⟩
           case measure=>simp[intOf];omega
          ·have e:k=x.b.ts.length:=by omega
           subst e
           have O:=zu HO
           rw[List.take_length] at O
           have HO:=zh O
           clear O hk t
           have cg:=(zu S1).c.c5
           go_wp2_with (first|(at_builtin;refine wp_catI _ rfl _ _ rfl W0.heap.size g n c 1 _ [x.b.lot] _ 1 rfl rfl (own_allocI (zu HO) _) rfl (lit1 _ _) (by omega) (by simp;omega) ?_)|go_in)
           intro g9 c9 u9 o9 gr9 loc9
           have O9:=zh o9
           have B9:=zh (((zu HB).alloc bs (.cells #[.int .i64 x.b.lot] 3)).grown gr9 (by simp;omega) (fun j hj=>by cases hj;exact og.1))
           clear o9 gr9 loc9
           go_wp2
           go_ret
           have E:A4++x.b.ts.flatMap row8++[x.b.lot]=nums x.b:=by rw[←zu HA4,←zu HA3,←zu HA2,←zu HA1,←zu HA0];rfl
           have O:Ints.Own u9 W0.heap.size g9 (n+1) c9 (A4++x.b.ts.flatMap row8++[x.b.lot]):=by first|exact zu O9|(rw[List.append_assoc];exact zu O9)|(rw[ws];exact zu O9)|(rw[ws,List.append_assoc];exact zu O9)
           rw[E] at O
           have l:=O.len
           refine⟨g9,c9,?_,?_,((zu S0).b.trans ((zu B9).mono (by omega)))⟩
           ·rw[l];rfl
           ·rw[l];exact O.mono (by omega)
end SNums13
namespace INums13
open BMem Bks SPuts11 SNums13
open IBalsFit (St one_more)
open Bals (T3 el3)
open Tup5 (T5 el5)
open Tup8 (T8 el8)
theorem iNums(w:World)(x:Bx)(h:Rd w x)(ha:∀i,i<x.b.bs.length→-1000000000000000≤(el3 x.b.bs i).2.2∧(el3 x.b.bs i).2.2≤1000000000000000):
  Calls Tryz.prog 155 #[.agg #[.slice (some ⟨x.ga,0,none⟩) x.b.ac.length x.ca,.slice (some ⟨x.gi,0,none⟩) x.b.ic.length x.ci,.slice (some ⟨x.gb,0,none⟩) x.b.bs.length x.cb,.slice (some ⟨x.gl,0,none⟩) x.b.ls.length x.cl,.slice (some ⟨x.gt,0,none⟩) x.b.ts.length x.ct,.int .i64 x.b.lot]] w fun e w'=>∃g c,e= .returned (.slice (some ⟨g,0,none⟩) (nums x.b).length c)∧Ints.Own w' w.heap.size g (nums x.b).length c (nums x.b)∧Below w.heap.size w w':=by
 have S0:=zh (St.start h 40)
 have XB:=zh (show((x.ga<w.heap.size∧x.gi<w.heap.size)∧x.gb<w.heap.size) from⟨⟨h.la,h.li⟩,h.lb⟩)
 have na:=h.na
 have ni:=h.ni
 have nb:=h.nb
 have nl:=h.nl
 have nt:=h.nt
 have HA:=zh ha
 clear h ha
 go_enter Tryz.func155,Tryz.ntmps155
 have s0:=(zu S0).c.c0
 go_wp2
 clear s0
 generalize hW:(w.alloc (.cells #[.slice (some ⟨x.ga,0,none⟩) x.b.ac.length x.ca,.slice (some ⟨x.gi,0,none⟩) x.b.ic.length x.ci,.slice (some ⟨x.gb,0,none⟩) x.b.bs.length x.cb,.slice (some ⟨x.gl,0,none⟩) x.b.ls.length x.cl,.slice (some ⟨x.gt,0,none⟩) x.b.ts.length x.ct,.int .i64 x.b.lot] 40))=W0 at *
 have ws:W0.heap.size=w.heap.size+1:=by rw[←hW];simp
 have O0:=zh (show Ints.Own (W0.alloc (.cells #[.int .i64 x.b.ac.length] 3)) W0.heap.size (w.heap.size+1) 1 1 [(x.b.ac.length:Int)] from by rw[←ws];exact World.ownsRow_lit W0 #[.int .i64 x.b.ac.length] 1 (Nat.le_refl _) (by decide) rfl)
 have B0:=zh (one_more W0 (.cells #[.int .i64 x.b.ac.length] 3))
 clear hW
 generalize hA:[(x.b.ac.length:Int)]=A0 at *
 have HA0:=zh hA
 clear hA
 go_loopw [3,5,21] (fun l _ i wr=>∃(k g c n:Nat),i= .int .i64 k∧k≤x.b.ac.length∧l= .slice (some ⟨g,0,none⟩) n c∧n≤1+2*k∧Hid (Ints.Own wr W0.heap.size g n c (A0++(x.b.ac.take k).flatMap row2))∧Hid (Below W0.heap.size W0 wr)) (fun _ _ i _=>x.b.ac.length-(intOf i).toNat)
 case atStart=>exact⟨0,_,_,_,rfl,by omega,rfl,by omega,zh (by simpa using zu O0),B0⟩
 case round=>
  clear O0 B0
  obtain⟨k,g,c,n,rfl,hk,rfl,nk,HO,HB⟩:=hrel
  have bs:=(zu HB).size
  have og:=(zu HO).lt
  have S1:=zh ((zu S0).step (zu HB))
  have cf:=(zu S1).c.c0
  by_cases t:k<x.b.ac.length
  ·have kt:(k:Int)<x.b.ac.length:=by omega
   have d:=(zu S1).r.ra k t
   have lg:=(zu S1).r.la
   have NX:=zh (flat_more (f:=row2) ((0,0):Int×Int) t)
   change Hid (_=_++row2 (Chart.el x.b.ac k)) at NX
   change wr.cell? ⟨x.ga,k*2,none⟩=some (.int .i64 (Chart.el x.b.ac k).1)∧wr.cell? ⟨x.ga,k*2+1,none⟩=some (.int .i64 (Chart.el x.b.ac k).2) at d
   generalize Chart.el x.b.ac k=p at *
   obtain⟨p0,p1⟩:=p
   obtain⟨d0,d1⟩:=d
   have LL:=zh (lit2 (wr.alloc (.cells #[.int .i64 p0,.int .i64 p1] 143)) p0 p1)
   rw[show(wr.alloc (.cells #[.int .i64 p0,.int .i64 p1] 143)).heap.size=wr.heap.size+1 by simp] at LL
   go_wp2_with (first|(at_builtin;refine wp_catI _ rfl _ _ rfl W0.heap.size g n c 2 _ [p0,p1] (wr.heap.size+1) 2 rfl rfl (own_allocI (own_allocI (zu HO) _) _) rfl (zu LL) (by omega) (by simp;omega) ?_)|go_in)
   intro g9 c9 u9 o9 gr9 loc9
   have O9:=zh o9
   have B9:=zh ((((zu HB).alloc bs (.cells #[.int .i64 p0,.int .i64 p1] 143)).alloc (by simp;omega) (.cells #[.int .i64 p0,.int .i64 p1] 3)).grown gr9 (by simp;omega) (fun j hj=>by cases hj;exact og.1))
   clear o9 gr9 loc9
   go_wp2
   go_roundw
   case rel=>exact⟨k+1,g9,c9,n+2,by go_num,by omega,rfl,by omega,zh (by rw[zu NX];first|exact zu O9|(rw[ws];exact zu O9)|(rw[←List.append_assoc];exact zu O9)|(rw[←List.append_assoc,ws];exact zu O9)),B9⟩
   case measure=>simp[intOf];omega
  ·have e:k=x.b.ac.length:=by omega
   subst e
   have O:=zu HO
   rw[List.take_length] at O
   have HO:=zh O
   clear O hk t
   have cg:=(zu S1).c.c1
   go_wp2_with (first|(at_builtin;refine wp_catI _ rfl _ _ rfl W0.heap.size g n c 1 _ [(x.b.ic.length:Int)] _ 1 rfl rfl (own_allocI (zu HO) _) rfl (lit1 _ _) (by omega) (by simp;omega) ?_)|go_in)
   intro g9 c9 u9 o9 gr9 loc9
   have O1:=zh (show Ints.Own u9 W0.heap.size g9 (n+1) c9 (A0++x.b.ac.flatMap row2++[(x.b.ic.length:Int)]) from by first|exact o9|(rw[List.append_assoc];exact o9)|(rw[ws];exact o9)|(rw[ws,List.append_assoc];exact o9))
   have B1:=zh (((zu HB).alloc bs (.cells #[.int .i64 (x.b.ic.length:Int)] 3)).grown gr9 (by simp;omega) (fun j hj=>by cases hj;exact og.1))
   have n9:n+1≤1+2*1048576+1:=by omega
   clear o9 gr9 loc9 HO HB S1 cf cg bs og
   generalize hA:A0++x.b.ac.flatMap row2++[(x.b.ic.length:Int)]=A1 at *
   have HA1:=zh hA
   clear hA
   have cn:=((zu S0).step (zu B1)).c.c1
   go_wp2
   clear cn
   go_loopw [3,7,42] (fun l _ i wr=>∃(k g c n:Nat),i= .int .i64 k∧k≤x.b.ic.length∧l= .slice (some ⟨g,0,none⟩) n c∧n≤1+2*1048576+1+2*k∧Hid (Ints.Own wr W0.heap.size g n c (A1++(x.b.ic.take k).flatMap row2))∧Hid (Below W0.heap.size W0 wr)) (fun _ _ i _=>x.b.ic.length-(intOf i).toNat)
   case atStart=>exact⟨0,_,_,_,rfl,by omega,rfl,by omega,zh (by simpa using zu O1),B1⟩
   case round=>
    clear O1 B1
    obtain⟨k,g,c,n,rfl,hk,rfl,nk,HO,HB⟩:=hrel
    have bs:=(zu HB).size
    have og:=(zu HO).lt
    have S1:=zh ((zu S0).step (zu HB))
    have cf:=(zu S1).c.c1
    by_cases t:k<x.b.ic.length
    ·have kt:(k:Int)<x.b.ic.length:=by omega
     have d:=(zu S1).r.ri k t
     have lg:=(zu S1).r.li
     have NX:=zh (flat_more (f:=row2) ((0,0):Int×Int) t)
     change Hid (_=_++row2 (Chart.el x.b.ic k)) at NX
     change wr.cell? ⟨x.gi,k*2,none⟩=some (.int .i64 (Chart.el x.b.ic k).1)∧wr.cell? ⟨x.gi,k*2+1,none⟩=some (.int .i64 (Chart.el x.b.ic k).2) at d
     generalize Chart.el x.b.ic k=p at *
     obtain⟨p0,p1⟩:=p
     obtain⟨d0,d1⟩:=d
     have LL:=zh (lit2 (wr.alloc (.cells #[.int .i64 p0,.int .i64 p1] 144)) p0 p1)
     rw[show(wr.alloc (.cells #[.int .i64 p0,.int .i64 p1] 144)).heap.size=wr.heap.size+1 by simp] at LL
     go_wp2_with (first|(at_builtin;refine wp_catI _ rfl _ _ rfl W0.heap.size g n c 2 _ [p0,p1] (wr.heap.size+1) 2 rfl rfl (own_allocI (own_allocI (zu HO) _) _) rfl (zu LL) (by omega) (by simp;omega) ?_)|go_in)
     intro g9 c9 u9 o9 gr9 loc9
     have O9:=zh o9
     have B9:=zh ((((zu HB).alloc bs (.cells #[.int .i64 p0,.int .i64 p1] 144)).alloc (by simp;omega) (.cells #[.int .i64 p0,.int .i64 p1] 3)).grown gr9 (by simp;omega) (fun j hj=>by cases hj;exact og.1))
     clear o9 gr9 loc9
     go_wp2
     go_roundw
     case rel=>exact⟨k+1,g9,c9,n+2,by go_num,by omega,rfl,by omega,zh (by rw[zu NX];first|exact zu O9|(rw[ws];exact zu O9)|(rw[←List.append_assoc];exact zu O9)|(rw[←List.append_assoc,ws];exact zu O9)),B9⟩
     case measure=>simp[intOf];omega
    ·have e:k=x.b.ic.length:=by omega
     subst e
     have O:=zu HO
     rw[List.take_length] at O
     have HO:=zh O
     clear O hk t
     have cg:=(zu S1).c.c2
     go_wp2_with (first|(at_builtin;refine wp_catI _ rfl _ _ rfl W0.heap.size g n c 1 _ [(x.b.bs.length:Int)] _ 1 rfl rfl (own_allocI (zu HO) _) rfl (lit1 _ _) (by omega) (by simp;omega) ?_)|go_in)
     intro g9 c9 u9 o9 gr9 loc9
     have O2:=zh (show Ints.Own u9 W0.heap.size g9 (n+1) c9 (A1++x.b.ic.flatMap row2++[(x.b.bs.length:Int)]) from by first|exact o9|(rw[List.append_assoc];exact o9)|(rw[ws];exact o9)|(rw[ws,List.append_assoc];exact o9))
     have B2:=zh (((zu HB).alloc bs (.cells #[.int .i64 (x.b.bs.length:Int)] 3)).grown gr9 (by simp;omega) (fun j hj=>by cases hj;exact og.1))
     have n9:n+1≤1+2*1048576+1+2*1048576+1:=by omega
     clear o9 gr9 loc9 HO HB S1 cf cg bs og
     generalize hA:A1++x.b.ic.flatMap row2++[(x.b.bs.length:Int)]=A2 at *
     have HA2:=zh hA
     clear hA
     have cn:=((zu S0).step (zu B2)).c.c2
     go_wp2
     clear cn
     go_loopw [3,9,63] (fun l _ i wr=>∃(k g c n:Nat),i= .int .i64 k∧k≤x.b.bs.length∧l= .slice (some ⟨g,0,none⟩) n c∧n≤1+2*1048576+1+2*1048576+1+3*k∧Hid (Ints.Own wr W0.heap.size g n c (A2++(x.b.bs.take k).flatMap row3))∧Hid (Below W0.heap.size W0 wr)) (fun _ _ i _=>x.b.bs.length-(intOf i).toNat)
     case atStart=>exact⟨0,_,_,_,rfl,by omega,rfl,by omega,zh (by simpa using zu O2),B2⟩
     case round=>
      clear O2 B2
      obtain⟨k,g,c,n,rfl,hk,rfl,nk,HO,HB⟩:=hrel
      have bs:=(zu HB).size
      have og:=(zu HO).lt
      have S1:=zh ((zu S0).step (zu HB))
      have cf:=(zu S1).c.c2
      by_cases t:k<x.b.bs.length
      ·have kt:(k:Int)<x.b.bs.length:=by omega
       have d:=(zu S1).r.rb k t
       have lg:=(zu S1).r.lb
       have NX:=zh (flat_more (f:=row3) ((0,0,0):T3) t)
       change Hid (_=_++row3 (el3 x.b.bs k)) at NX
       have am:=(zu HA) k t
       change wr.cell? ⟨x.gb,k*3,none⟩=some (.int .i64 (el3 x.b.bs k).1)∧wr.cell? ⟨x.gb,k*3+1,none⟩=some (.int .i64 (el3 x.b.bs k).2.1)∧wr.cell? ⟨x.gb,k*3+2,none⟩=some (.int .i64 (el3 x.b.bs k).2.2) at d
       generalize el3 x.b.bs k=p at *
       obtain⟨p0,p1,p2⟩:=p
       obtain⟨d0,d1,d2⟩:=d
       have am1:wrap64 (p2+1000000000000000)=p2+1000000000000000:=by rw[wrap64];simp only at am;omega
       have am2:IntKind.i64.wrap (p2+1000000000000000)=p2+1000000000000000:=by rw[IntKind.wrap_i64];simp only at am;omega
       have LL:=zh (lit3 (wr.alloc (.cells #[.int .i64 p0,.int .i64 p1,.int .i64 p2] 146)) p0 p1 (p2+1000000000000000))
       rw[show(wr.alloc (.cells #[.int .i64 p0,.int .i64 p1,.int .i64 p2] 146)).heap.size=wr.heap.size+1 by simp] at LL
       go_wp2_with (first|(at_builtin;refine wp_catI _ rfl _ _ rfl W0.heap.size g n c 3 _ [p0,p1,(p2+1000000000000000)] (wr.heap.size+1) 3 rfl rfl (own_allocI (own_allocI (zu HO) _) _) rfl (zu LL) (by omega) (by simp;omega) ?_)|go_in)
       intro g9 c9 u9 o9 gr9 loc9
       have O9:=zh o9
       have B9:=zh ((((zu HB).alloc bs (.cells #[.int .i64 p0,.int .i64 p1,.int .i64 p2] 146)).alloc (by simp;omega) (.cells #[.int .i64 p0,.int .i64 p1,.int .i64 (p2+1000000000000000)] 3)).grown gr9 (by simp;omega) (fun j hj=>by cases hj;exact og.1))
       clear o9 gr9 loc9
       go_wp2
       go_roundw
       case rel=>exact⟨k+1,g9,c9,n+3,by go_num,by omega,rfl,by omega,zh (by rw[zu NX];first|exact zu O9|(rw[ws];exact zu O9)|(rw[←List.append_assoc];exact zu O9)|(rw[←List.append_assoc,ws];exact zu O9)),B9⟩
       case measure=>simp[intOf];omega
      ·have e:k=x.b.bs.length:=by omega
       subst e
       have O:=zu HO
       rw[List.take_length] at O
       have HO:=zh O
       clear O hk t
       have cg:=(zu S1).c.c3
       go_wp2_with (first|(at_builtin;refine wp_catI _ rfl _ _ rfl W0.heap.size g n c 1 _ [(x.b.ls.length:Int)] _ 1 rfl rfl (own_allocI (zu HO) _) rfl (lit1 _ _) (by omega) (by simp;omega) ?_)|go_in)
       intro g9 c9 u9 o9 gr9 loc9
       have O3:=zh (show Ints.Own u9 W0.heap.size g9 (n+1) c9 (A2++x.b.bs.flatMap row3++[(x.b.ls.length:Int)]) from by first|exact o9|(rw[List.append_assoc];exact o9)|(rw[ws];exact o9)|(rw[ws,List.append_assoc];exact o9))
       have B3:=zh (((zu HB).alloc bs (.cells #[.int .i64 (x.b.ls.length:Int)] 3)).grown gr9 (by simp;omega) (fun j hj=>by cases hj;exact og.1))
       have n9:n+1≤1+2*1048576+1+2*1048576+1+3*1048576+1:=by omega
       clear o9 gr9 loc9 HO HB S1 cf cg bs og
       generalize hA:A2++x.b.bs.flatMap row3++[(x.b.ls.length:Int)]=A3 at *
       have HA3:=zh hA
       clear hA
       have cn:=((zu S0).step (zu B3)).c.c3
       go_wp2
       clear cn
       go_loopw [3,11,87] (fun l _ i wr=>∃(k g c n:Nat),i= .int .i64 k∧k≤x.b.ls.length∧l= .slice (some ⟨g,0,none⟩) n c∧n≤1+2*1048576+1+2*1048576+1+3*1048576+1+5*k∧Hid (Ints.Own wr W0.heap.size g n c (A3++(x.b.ls.take k).flatMap row5))∧Hid (Below W0.heap.size W0 wr)) (fun _ _ i _=>x.b.ls.length-(intOf i).toNat)
       case atStart=>exact⟨0,_,_,_,rfl,by omega,rfl,by omega,zh (by simpa using zu O3),B3⟩
       case round=>
        clear O3 B3
        obtain⟨k,g,c,n,rfl,hk,rfl,nk,HO,HB⟩:=hrel
        have bs:=(zu HB).size
        have og:=(zu HO).lt
        have S1:=zh ((zu S0).step (zu HB))
        have cf:=(zu S1).c.c3
        by_cases t:k<x.b.ls.length
        ·have kt:(k:Int)<x.b.ls.length:=by omega
         have d:=(zu S1).r.rl k t
         have lg:=(zu S1).r.ll
         have NX:=zh (flat_more (f:=row5) ((0,0,0,0,0):T5) t)
         change Hid (_=_++row5 (el5 x.b.ls k)) at NX
         change wr.cell? ⟨x.gl,k*5,none⟩=some (.int .i64 (el5 x.b.ls k).1)∧wr.cell? ⟨x.gl,k*5+1,none⟩=some (.int .i64 (el5 x.b.ls k).2.1)∧wr.cell? ⟨x.gl,k*5+2,none⟩=some (.int .i64 (el5 x.b.ls k).2.2.1)∧wr.cell? ⟨x.gl,k*5+3,none⟩=some (.int .i64 (el5 x.b.ls k).2.2.2.1)∧wr.cell? ⟨x.gl,k*5+4,none⟩=some (.int .i64 (el5 x.b.ls k).2.2.2.2) at d
         generalize el5 x.b.ls k=p at *
         obtain⟨p0,p1,p2,p3,p4⟩:=p
         obtain⟨d0,d1,d2,d3,d4⟩:=d
         have LL:=zh (lit5 (wr.alloc (.cells #[.int .i64 p0,.int .i64 p1,.int .i64 p2,.int .i64 p3,.int .i64 p4] 148)) p0 p1 p2 p3 p4)
         rw[show(wr.alloc (.cells #[.int .i64 p0,.int .i64 p1,.int .i64 p2,.int .i64 p3,.int .i64 p4] 148)).heap.size=wr.heap.size+1 by simp] at LL
         go_wp2_with (first|(at_builtin;refine wp_catI _ rfl _ _ rfl W0.heap.size g n c 5 _ [p0,p1,p2,p3,p4] (wr.heap.size+1) 5 rfl rfl (own_allocI (own_allocI (zu HO) _) _) rfl (zu LL) (by omega) (by simp;omega) ?_)|go_in)
         intro g9 c9 u9 o9 gr9 loc9
         have O9:=zh o9
         have B9:=zh ((((zu HB).alloc bs (.cells #[.int .i64 p0,.int .i64 p1,.int .i64 p2,.int .i64 p3,.int .i64 p4] 148)).alloc (by simp;omega) (.cells #[.int .i64 p0,.int .i64 p1,.int .i64 p2,.int .i64 p3,.int .i64 p4] 3)).grown gr9 (by simp;omega) (fun j hj=>by cases hj;exact og.1))
         clear o9 gr9 loc9
         go_wp2
         go_roundw
         case rel=>exact⟨k+1,g9,c9,n+5,by go_num,by omega,rfl,by omega,zh (by rw[zu NX];first|exact zu O9|(rw[ws];exact zu O9)|(rw[←List.append_assoc];exact zu O9)|(rw[←List.append_assoc,ws];exact zu O9)),B9⟩
         case measure=>simp[intOf];omega
        ·have e:k=x.b.ls.length:=by omega
         subst e
         have O:=zu HO
         rw[List.take_length] at O
         have HO:=zh O
         clear O hk t
         have cg:=(zu S1).c.c4
         go_wp2_with (first|(at_builtin;refine wp_catI _ rfl _ _ rfl W0.heap.size g n c 1 _ [(x.b.ts.length:Int)] _ 1 rfl rfl (own_allocI (zu HO) _) rfl (lit1 _ _) (by omega) (by simp;omega) ?_)|go_in)
         intro g9 c9 u9 o9 gr9 loc9
         have O4:=zh (show Ints.Own u9 W0.heap.size g9 (n+1) c9 (A3++x.b.ls.flatMap row5++[(x.b.ts.length:Int)]) from by first|exact o9|(rw[List.append_assoc];exact o9)|(rw[ws];exact o9)|(rw[ws,List.append_assoc];exact o9))
         have B4:=zh (((zu HB).alloc bs (.cells #[.int .i64 (x.b.ts.length:Int)] 3)).grown gr9 (by simp;omega) (fun j hj=>by cases hj;exact og.1))
         have n9:n+1≤1+2*1048576+1+2*1048576+1+3*1048576+1+5*1048576+1:=by omega
         clear o9 gr9 loc9 HO HB S1 cf cg bs og
         generalize hA:A3++x.b.ls.flatMap row5++[(x.b.ts.length:Int)]=A4 at *
         have HA4:=zh hA
         clear hA
         have cn:=((zu S0).step (zu B4)).c.c4
         go_wp2
         clear cn
         go_loopw [3,13,114] (fun l _ i wr=>∃(k g c n:Nat),i= .int .i64 k∧k≤x.b.ts.length∧l= .slice (some ⟨g,0,none⟩) n c∧n≤1+2*1048576+1+2*1048576+1+3*1048576+1+5*1048576+1+8*k∧Hid (Ints.Own wr W0.heap.size g n c (A4++(x.b.ts.take k).flatMap row8))∧Hid (Below W0.heap.size W0 wr)) (fun _ _ i _=>x.b.ts.length-(intOf i).toNat)
         case atStart=>exact⟨0,_,_,_,rfl,by omega,rfl,by omega,zh (by simpa using zu O4),B4⟩
         case round=>
          clear O4 B4
          obtain⟨k,g,c,n,rfl,hk,rfl,nk,HO,HB⟩:=hrel
          have bs:=(zu HB).size
          have og:=(zu HO).lt
          have S1:=zh ((zu S0).step (zu HB))
          have cf:=(zu S1).c.c4
          by_cases t:k<x.b.ts.length
          ·have kt:(k:Int)<x.b.ts.length:=by omega
           have d:=(zu S1).r.rt k t
           have lg:=(zu S1).r.lt
           have NX:=zh (flat_more (f:=row8) ((0,0,0,0,0,0,0,0):T8) t)
           change Hid (_=_++row8 (el8 x.b.ts k)) at NX
           change wr.cell? ⟨x.gt,k*8,none⟩=some (.int .i64 (el8 x.b.ts k).1)∧wr.cell? ⟨x.gt,k*8+1,none⟩=some (.int .i64 (el8 x.b.ts k).2.1)∧wr.cell? ⟨x.gt,k*8+2,none⟩=some (.int .i64 (el8 x.b.ts k).2.2.1)∧wr.cell? ⟨x.gt,k*8+3,none⟩=some (.int .i64 (el8 x.b.ts k).2.2.2.1)∧wr.cell? ⟨x.gt,k*8+4,none⟩=some (.int .i64 (el8 x.b.ts k).2.2.2.2.1)∧wr.cell? ⟨x.gt,k*8+5,none⟩=some (.int .i64 (el8 x.b.ts k).2.2.2.2.2.1)∧wr.cell? ⟨x.gt,k*8+6,none⟩=some (.int .i64 (el8 x.b.ts k).2.2.2.2.2.2.1)∧wr.cell? ⟨x.gt,k*8+7,none⟩=some (.int .i64 (el8 x.b.ts k).2.2.2.2.2.2.2) at d
           generalize el8 x.b.ts k=p at *
           obtain⟨p0,p1,p2,p3,p4,p5,p6,p7⟩:=p
           obtain⟨d0,d1,d2,d3,d4,d5,d6,d7⟩:=d
           have LL:=zh (lit8 (wr.alloc (.cells #[.int .i64 p0,.int .i64 p1,.int .i64 p2,.int .i64 p3,.int .i64 p4,.int .i64 p5,.int .i64 p6,.int .i64 p7] 141)) p0 p1 p2 p3 p4 p5 p6 p7)
           rw[show(wr.alloc (.cells #[.int .i64 p0,.int .i64 p1,.int .i64 p2,.int .i64 p3,.int .i64 p4,.int .i64 p5,.int .i64 p6,.int .i64 p7] 141)).heap.size=wr.heap.size+1 by simp] at LL
           go_wp2_with (first|(at_builtin;refine wp_catI _ rfl _ _ rfl W0.heap.size g n c 8 _ [p0,p1,p2,p3,p4,p5,p6,p7] (wr.heap.size+1) 8 rfl rfl (own_allocI (own_allocI (zu HO) _) _) rfl (zu LL) (by omega) (by simp;omega) ?_)|go_in)
           intro g9 c9 u9 o9 gr9 loc9
           have O9:=zh o9
           have B9:=zh ((((zu HB).alloc bs (.cells #[.int .i64 p0,.int .i64 p1,.int .i64 p2,.int .i64 p3,.int .i64 p4,.int .i64 p5,.int .i64 p6,.int .i64 p7] 141)).alloc (by simp;omega) (.cells #[.int .i64 p0,.int .i64 p1,.int .i64 p2,.int .i64 p3,.int .i64 p4,.int .i64 p5,.int .i64 p6,.int .i64 p7] 3)).grown gr9 (by simp;omega) (fun j hj=>by cases hj;exact og.1))
           clear o9 gr9 loc9
           go_wp2
           go_roundw
           case rel=>exact⟨k+1,g9,c9,n+8,by go_num,by omega,rfl,by omega,zh (by rw[zu NX];first|exact zu O9|(rw[ws];exact zu O9)|(rw[←List.append_assoc];exact zu O9)|(rw[←List.append_assoc,ws];exact zu O9)),B9⟩
           case measure=>simp[intOf];omega
          ·have e:k=x.b.ts.length:=by omega
           subst e
           have O:=zu HO
           rw[List.take_length] at O
           have HO:=zh O
           clear O hk t
           have cg:=(zu S1).c.c5
           go_wp2_with (first|(at_builtin;refine wp_catI _ rfl _ _ rfl W0.heap.size g n c 1 _ [x.b.lot] _ 1 rfl rfl (own_allocI (zu HO) _) rfl (lit1 _ _) (by omega) (by simp;omega) ?_)|go_in)
           intro g9 c9 u9 o9 gr9 loc9
           have O9:=zh o9
           have B9:=zh (((zu HB).alloc bs (.cells #[.int .i64 x.b.lot] 3)).grown gr9 (by simp;omega) (fun j hj=>by cases hj;exact og.1))
           clear o9 gr9 loc9
           go_wp2
           go_ret
           have E:A4++x.b.ts.flatMap row8++[x.b.lot]=nums x.b:=by rw[←zu HA4,←zu HA3,←zu HA2,←zu HA1,←zu HA0];rfl
           have O:Ints.Own u9 W0.heap.size g9 (n+1) c9 (A4++x.b.ts.flatMap row8++[x.b.lot]):=by first|exact zu O9|(rw[List.append_assoc];exact zu O9)|(rw[ws];exact zu O9)|(rw[ws,List.append_assoc];exact zu O9)
           rw[E] at O
           have l:=O.len
           refine⟨g9,c9,?_,?_,((zu S0).b.trans ((zu B9).mono (by omega)))⟩
           ·rw[l];rfl
           ·rw[l];exact O.mono (by omega)
end INums13
end Go.Proofs.YtagmnociflkhcaaGreat
