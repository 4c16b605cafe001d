/- Texts of one proof. -/
import Derived.Test.YtlbgfdpcgpijhaaGreatQA1
import Derived.Maps.AppendAt
open Go.ChangeShapes Go.WideShapes Go.ChangeAt Go.RowKit
set_option linter.unusedVariables false
set_option linter.unusedSimpArgs false
set_option maxRecDepth 100000
set_option maxHeartbeats 32000000
namespace Go.Proofs.YtlbgfdpcgpijhaaGreat
namespace SPut11
open SBytes
open ByteH (Own At)
def AtO(w:World)(g o:Nat)(xs:List Int):Prop:=∀i,i<xs.length→w.cell? ⟨g,o+i,none⟩=some (.int .u8 (xs.getD i 0))
theorem AtO.of{w:World}{g:Nat}{xs:List Int}(h:At w g xs):AtO w g 0 xs:=fun i hi=>by rw[Nat.zero_add];exact h i hi
end SPut11
namespace LotApp
open Tup5
theorem info2:(Tryz.prog.info? 113).map (fun i=>(i.zero,i.size,i.bytes))=some (some (.agg #[.int .i64 0,.int .i64 0,.int .i64 0,.int .i64 0,.int .i64 0]),5,40):=by kernel_rfl
theorem wp_app(u:World){ops:Array Oper}{rest:List Oper}{o:Oper}{a:Act}{Q:Exit→Act→World→Prop}(hgd:o.guard=none)(s x:Operand)
  (ho:o.op= .call {callee:= .builtin .append,args:= #[s,x],argTypes:= #[42,42]})(base g n cap:Nat)(ps:List T5)(vb:Nat)(x0 x1 x2 x3 x4:Int)
  (hs:a.eval s= .slice (some ⟨g,0,none⟩) n cap)(hx:a.eval x= .slice (some ⟨vb,0,none⟩) 1 1)(hown:Own5 113 u base g n cap ps)(hv:Holds5 u vb 0 (x0,x1,x2,x3,x4))(hn:n≤1048576)(hb:base≤u.heap.size)
  (h:∀g' c' w',Own5 113 w' base g' (n+1) c' (ps++[(x0,x1,x2,x3,x4)])→u.grownBy w' (some g)→(g'=g∨g'=u.heap.size)→wpList Tryz.prog ops Q rest (a.put o.dst (.slice (some ⟨g',0,none⟩) (n+1) c')) w'):wpList Tryz.prog ops Q (o::rest) a u:=by
 obtain⟨i0,hi,hz0,hz1,hz2⟩:=info_parts info2
 have hat:At5 u vb [(x0,x1,x2,x3,x4)]:=by
  intro i hi
  obtain rfl:i=0:=by simpa using hi
  exact hv
 refine wpList_append_own_at u hgd s x 42 ho base 113 i0 (.agg #[.int .i64 0,.int .i64 0,.int .i64 0,.int .i64 0,.int .i64 0]) 5 40 Tryz.underlying42 hi hz0 hz1 hz2 rfl (by decide) _ n _ hs hown ⟨vb,0,none⟩ 1 1 (flat5 [(x0,x1,x2,x3,x4)]) hx rfl hat.cells (fun u hu=>flat5_one u _ hu) (by unfold maxLen;omega) (by omega) hb ?_
 intro v' w' own' gr' nil' loc'
 obtain⟨g',c',rfl,o'⟩:=own5_of_row (n':=n+1) (ps:=ps++[(x0,x1,x2,x3,x4)]) own' rfl (by rw[flat5_append]) (by rw[nil'];simp)
 exact h g' c' w' o' gr' (by simpa[Value.ownBlock] using loc')
end LotApp
namespace IPut11
open SBytes SPut11
theorem Ob.rebase{w:World}{base base' n cap:Nat}{a:Option Addr}{xs:List Int}(h:VOB.Ob w base a n cap xs)(hb:base'≤base):VOB.Ob w base' a n cap xs:=h.mono hb
end IPut11
end Go.Proofs.YtlbgfdpcgpijhaaGreat
