/- Texts of one proof, one behind the other: BalApp. -/
import Derived.Test.YtagmnociflkhcaaGreatDoorRows
import Derived.Test.YtagmnociflkhcaaGreatDoorCards
import Derived.Test.YtagmnociflkhcaaGreatDoorTie
import Derived.Test.YtagmnociflkhcaaGreatDoorQL0
import Derived.Test.YtagmnociflkhcaaGreatDoorQL3
import Derived.Maps.AppendAt
set_option linter.unusedVariables false
set_option linter.unusedSimpArgs false
open Go.ChangeShapes Go.WideShapes Go.ChangeAt Go.RowKit
set_option maxRecDepth 100000
set_option maxHeartbeats 32000000
namespace Go.Proofs.YtagmnociflkhcaaGreatDoor
namespace BalApp
open Bals Triples
theorem info2:(Tryz.prog.info? 78).map (fun i=>(i.zero,i.size,i.bytes))=some (some (.agg #[.int .i64 0,.int .i64 0,.int .i64 0]),3,24):=by kernel_rfl
theorem wp_app(u:World){ops:Array Oper}{rest:List Oper}{o:Oper}{a:Act}{Q:Exit→Act→World→Prop}(hgd:o.guard=none)(s x:Operand)
  (ho:o.op= .call {callee:= .builtin .append,args:= #[s,x],argTypes:= #[28,28]})(base g n cap:Nat)(ps:List T3)(vb:Nat)(p q r:Int)
  (hs:a.eval s= .slice (some ⟨g,0,none⟩) n cap)(hx:a.eval x= .slice (some ⟨vb,0,none⟩) 1 1)(hown:Own3 78 u base g n cap ps)(hv:Holds3 u vb 0 (p,q,r))(hn:n≤1048576)(hb:base≤u.heap.size)
  (h:∀g' c' w',Own3 78 w' base g' (n+1) c' (ps++[(p,q,r)])→u.grownBy w' (some g)→(g'=g∨g'=u.heap.size)→wpList Tryz.prog ops Q rest (a.put o.dst (.slice (some ⟨g',0,none⟩) (n+1) c')) w'):wpList Tryz.prog ops Q (o::rest) a u:=by
 obtain⟨i0,hi,hz0,hz1,hz2⟩:=info_parts info2
 have hat:At3 u vb [(p,q,r)]:=by
  intro i hi
  obtain rfl:i=0:=by simpa using hi
  exact hv
 refine wpList_append_own_at u hgd s x 28 ho base 78 i0 (.agg #[.int .i64 0,.int .i64 0,.int .i64 0]) 3 24 Tryz.underlying28 hi hz0 hz1 hz2 rfl (by decide) _ n _ hs hown ⟨vb,0,none⟩ 1 1 (flat3 [(p,q,r)]) hx rfl hat.cells (fun u hu=>flat3_one u _ hu) (by unfold maxLen;omega) (by omega) hb ?_
 intro v' w' own' gr' nil' loc'
 obtain⟨g',c',rfl,o'⟩:=own3_of_row (n':=n+1) (ps:=ps++[(p,q,r)]) own' rfl (by rw[flat3_append]) (by rw[nil'];simp)
 exact h g' c' w' o' gr' (by simpa[Value.ownBlock] using loc')
end BalApp
end Go.Proofs.YtagmnociflkhcaaGreatDoor
