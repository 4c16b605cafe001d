/- Texts of one proof. -/
import Derived.Test.YtlbgfdpcgpijhaaGreatQA32
open Go.ChangeShapes Go.WideShapes Go.ChangeAt Go.RowKit
set_option linter.unusedVariables false
set_option linter.unusedSimpArgs false
set_option maxRecDepth 100000
set_option maxHeartbeats 32000000
namespace Go.Proofs.YtlbgfdpcgpijhaaGreat
namespace ICp14
open Fil14 OpensF14 DiskH14 DkH14 SDk14 SOk14 App14 SLess14 SCopy14 SCom14
theorem run_copyF(w:World)(g dCap:Nat)(sp:Option Addr)(sCap:Nat)(ps:List TF)(cur:Array Value)(t ty:TypeId)(hg:w.heap[g]?=some (.cells cur t (0,0)))(hc:cur.size=ps.length*3)(hs:ps.length=0∨∃vb,sp=some ⟨vb,0,none⟩∧AtF w vb ps):
  (Builtin.copy_ #[36,36] ty #[.slice (some ⟨g,0,none⟩) ps.length dCap,.slice sp ps.length sCap]).run Tryz.prog w= .ok (.int .i64 ps.length) (w.setRow g (flatF ps).toArray):=by
 obtain⟨i0,hi,hz0,hz1,hz2⟩:=info_parts HelpF14.info2
 rcases hs with h0|⟨vb,rfl,ha⟩
 ·have e:ps=[]:=List.length_eq_zero_iff.1 h0
  subst e
  have ec:cur= #[]:=Array.eq_empty_of_size_eq_zero (by simpa using hc)
  subst ec
  rw[show(flatF []).toArray= #[] from rfl,setRow_self w g #[] t (0,0) hg]
  cases sp<;>simp[Builtin.copy_,run_underlying Tryz.underlying36,Builtin.lenOf,Builtin.firstCells,sizeOf,typeInfo,hi,hz1,storeCells,loadCells,loadCellsFrom,goInt]
 ·have hl:=run_loadCells_list (P:=Tryz.prog) w ⟨vb,0,none⟩ (flatF ps) ha.cells
  have hst:=run_storeCells_at Tryz.prog g 0 t (flatF ps) 0 cur w hg (by rw[flatF_len,hc];omega) (fun u hu=>flatF_one u ps hu)
  rw[flatF_len] at hl
  have hd:cur.toList.drop (ps.length*3)=[]:=by rw[List.drop_eq_nil_iff];simp[hc]
  simp only[flatF_len,Nat.zero_add,Nat.add_zero,List.take_zero,List.nil_append,hd,List.append_nil] at hst
  simp[Builtin.copy_,run_underlying Tryz.underlying36,Builtin.lenOf,Builtin.firstCells,sizeOf,typeInfo,hi,hz1,hl,hst,goInt]
theorem wp_copyF(w:World){ops:Array Oper}{rest:List Oper}{o:Oper}{a:Act}{Q:Exit→Act→World→Prop}(hgd:o.guard=none)(d s:Operand)
  (ho:o.op= .call {callee:= .builtin .copy,args:= #[d,s],argTypes:= #[36,36]})(base g:Nat)(ps:List TF)(old:List Value)(sp:Option Addr)(sCap:Nat)(hd:a.eval d= .slice (some ⟨g,0,none⟩) ps.length ps.length)(hs:a.eval s= .slice sp ps.length sCap)
  (hown:w.ownsRow base 64 3 (.slice (some ⟨g,0,none⟩) ps.length ps.length) ps.length old)(hq:ps.length=0∨∃vb,sp=some ⟨vb,0,none⟩∧AtF w vb ps)
  (h:∀w',w'.ownsRow base 64 3 (.slice (some ⟨g,0,none⟩) ps.length ps.length) ps.length (flatF ps)→w.grownBy w' (some g)→wpList Tryz.prog ops Q rest (a.put o.dst (.int .i64 ps.length)) w'):wpList Tryz.prog ops Q (o::rest) a w:=by
 rcases hown.2 with⟨h1,_⟩|⟨g',c,cur,h1,h2,h3,h4,h5,h6,h7⟩
 ·simp at h1
 obtain⟨rfl,rfl⟩:g=g'∧ps.length=c:=by simpa using h1
 refine wpList_plain hgd fun K hK=>?_
 have hrun:=run_copyF w g ps.length sp sCap ps cur 64 o.type h3 h6 hq
 unfold Oper.wp
 simp[execOp,ho,resolve,invoke,builtin,hd,hs,hrun,Result.andThen]
 refine hK _ _ (h _ ⟨flatF_len ps,.inr ⟨g,ps.length,(flatF ps).toArray,rfl,h2,setRow_heap w g cur _ _ _ h3,Nat.le_refl _,h5,by simp[flatF_len],?_⟩⟩ ⟨rfl,rfl,rfl,by simp[World.setRow],fun k hk hne=>setRow_other w g k _ (fun e=>hne (by rw[e]))⟩)
 simp[←flatF_len]
theorem mid{w w1:World}{x:Dx}{vs:List Value}(h:Wd w ((w.alloc (.cells #[.int .i64 x.room,.slice x.a x.ps.length x.c] 38)).alloc (.cells #[.int .i64 0,.slice none 0 0] 38)) x∧Bc ((w.alloc (.cells #[.int .i64 x.room,.slice x.a x.ps.length x.c] 38)).alloc (.cells #[.int .i64 0,.slice none 0 0] 38)) w.heap.size (w.heap.size+1) (.int .i64 0) (.slice none 0 0))
  (ho:w1.ownsRow (w.heap.size+2) 64 3 (.slice (some ⟨((w.alloc (.cells #[.int .i64 x.room,.slice x.a x.ps.length x.c] 38)).alloc (.cells #[.int .i64 0,.slice none 0 0] 38)).heap.size,0,none⟩) x.ps.length x.ps.length) x.ps.length vs)(hg:((w.alloc (.cells #[.int .i64 x.room,.slice x.a x.ps.length x.c] 38)).alloc (.cells #[.int .i64 0,.slice none 0 0] 38)).grownBy w1 none):
  Wd w w1 x∧Bc w1 w.heap.size (w.heap.size+1) (.int .i64 0) (.slice none 0 0)∧w1.ownsRow (w.heap.size+2) 64 3 (.slice (some ⟨w.heap.size+2,0,none⟩) x.ps.length x.ps.length) x.ps.length vs∧(x.ps.length=0∨∃vb,x.a=some ⟨vb,0,none⟩∧AtF w1 vb x.ps):=by
 have d:=h.1.step (grownBy_below hg)
 refine⟨d,h.2.kept hg (by simp),?_,?_⟩
 ·have e:((w.alloc (.cells #[.int .i64 x.room,.slice x.a x.ps.length x.c] 38)).alloc (.cells #[.int .i64 0,.slice none 0 0] 38)).heap.size=w.heap.size+2:=by simp
  rw[e] at ho
  exact ho
 ·by_cases q:x.ps.length=0
  ·exact .inl q
  ·obtain⟨g,e⟩:=d.r.e q
   exact .inr ⟨g,e,(d.r.r g e).2⟩
theorem iCopied(w:World)(x:Dx)(hr:RdD w x):
  Calls Tryz.prog 119 #[.agg #[.int .i64 x.room,.slice x.a x.ps.length x.c]] w fun e w'=>∃y:Dx,y.room=x.room∧y.ps=x.ps∧e= .returned (.agg #[.int .i64 y.room,.slice y.a y.ps.length y.c])∧OwD w' w.heap.size y∧Below w.heap.size w w':=by
 obtain⟨i0,hi,hz0,hz1,hz2⟩:=info_parts HelpF14.info2
 have G0:=zh (begunD hr)
 have h20:=hr.n
 clear hr
 have SZ:=zh (show w.heap.size+2≤((w.alloc (.cells #[.int .i64 x.room,.slice x.a x.ps.length x.c] 38)).alloc (.cells #[.int .i64 0,.slice none 0 0] 38)).heap.size by simp)
 go_enter Tryz.func119,Tryz.ntmps119
 go_wp2_with (first|(at_make;refine wpList_make_full _ rfl _ _ 36 rfl (w.heap.size+2) 64 i0 (.agg #[.int .i64 0,.string ByteArray.empty,.string ByteArray.empty]) 3 Tryz.underlying36 hi hz0 hz1 .i64 .i64 _ _ x.ps.length rfl rfl rfl rfl (by rw[hz2];omega) (by unfold maxLen;omega) (zu SZ) ?_;intro w1 hown hgrow;have HM:=zh (mid (zu G0) hown hgrow);have c0:=(zu HM).1.c0;have c1:=(zu HM).1.c1;clear hown hgrow G0 SZ)|(refine wp_copyF _ rfl _ _ rfl (w.heap.size+2) (w.heap.size+2) x.ps _ x.a x.c rfl rfl (zu HM).2.2.1 (zu HM).2.2.2 ?_;intro w2 o2 g2;have O2:=zh o2;have K0:=(kcell g2 0 (zu HM).1.lt (by omega)).trans c0;have R2:=zh ((zu HM).2.1.kept g2 (by simp));have B2:=zh (grow_low (zu HM).1.b g2 ⟨by omega,(zu HM).1.b.size⟩);have r0:=(zu R2).c0;have r1:=(zu R2).c1;have f0:=(zu R2).free 0;have f1:=(zu R2).free 1;clear o2 g2 c0 c1 HM)|go_in)
 have E:=endedD (y:=⟨x.room,some ⟨w.heap.size+2,0,none⟩,x.ps.length,x.ps⟩) (zu B2) (zu R2) (zu O2) (by omega)
 refine bodyPost_ret (v:= .agg #[.int .i64 x.room,.slice (some ⟨w.heap.size+2,0,none⟩) x.ps.length x.ps.length]) (by simp[results,Tryz.results119,go_sem,r0,r1]) rfl ⟨⟨x.room,some ⟨w.heap.size+2,0,none⟩,x.ps.length,x.ps⟩,rfl,rfl,rfl,E.1,E.2⟩
end ICp14
end Go.Proofs.YtlbgfdpcgpijhaaGreat
