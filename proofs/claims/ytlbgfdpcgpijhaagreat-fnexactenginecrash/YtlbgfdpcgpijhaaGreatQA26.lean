/- Texts of one proof. -/
import Derived.Test.YtlbgfdpcgpijhaaGreatQA25
import Derived.WideKeyEntry
open Go.ChangeShapes Go.WideShapes Go.ChangeAt Go.RowKit
set_option linter.unusedVariables false
set_option linter.unusedSimpArgs false
set_option maxRecDepth 100000
set_option maxHeartbeats 32000000
namespace Go.Proofs.YtlbgfdpcgpijhaaGreat
namespace Entry
open Bals Tab Post
open Go.MapKept Go.ChangeMaps Go.WideElems
open Go.WideMaps (KeyLaw)
theorem klaw:KeyLaw Tryz.prog 180:=deep_law_laid laidOut (m:=2) (by omega) row (by kernel_rfl) wide
theorem owns_block{H:Type}{P:Program}{k:TypeId}{R:Value→Option (DataW H×List MemPlace)}{w w':World}{b n:Nat}{D:DataW H}(h:w.ownsMap P k R b n D)(e:w'.heap[b]?=w.heap[b]?):w'.ownsMap P k R b n D:=by
 obtain⟨es,clock,hb,F,hs,hD⟩:=h
 exact⟨es,clock,e.trans hb,F,hs,hD⟩
theorem tab_block{w w':World}{B n:Nat}{f:Int→Int→Int}(h:Tab w B n f)(e:w'.heap[B]?=w.heap[B]?):Tab w' B n f:=by
 obtain⟨D,h1,h2⟩:=h
 exact⟨D,owns_block h1 e,h2⟩
theorem put_run{w:World}{B n:Nat}{f:Int→Int→Int}(h:Tab w B n f)(hn:n≤1048576){a i v:Int}(hw:Wf a i)(hv:(Lit.int .i64 v).wf=true):
  ∃w',(Instr.mapUpdate 178 (.map (some B)) (.agg #[.int .i64 a,.int .i64 i]) (.int .i64 v)).run Tryz.prog w= .ok () w'∧Tab w' B (n+1) (upd f a i v)∧w.grownBy w' (some B):=by
 obtain⟨D,h1,h2⟩:=h
 obtain⟨w',r,o,g⟩:=h1.update law Tryz.underlying178 (by unfold maxLen;omega) (key_of hw) (plainElem_int Tryz.underlying3 hv)
 exact⟨w',r,⟨_,o,tells_put h2 (isMap_of h1) hw⟩,g⟩
theorem entry_run{w:World}{B n:Nat}{f:Int→Int→Int}(h:Tab w B n f)(hn:n≤1048576){a i:Int}(hw:Wf a i):
  ∃(v0:Value) (st:Nat) (w2:World),(Instr.mapEntry 178 (.map (some B)) (.agg #[.int .i64 a,.int .i64 i])).run Tryz.prog w= .ok (.tuple #[v0,goInt st]) w2∧Tab w2 B (n+1) f∧w.grownBy w2 (some B)∧
   ∀v:Int,(Lit.int .i64 v).wf=true→∃w3,(Instr.entryStore 178 (.map (some B)) (goInt st) (.int .i64 v)).run Tryz.prog w2= .ok () w3∧Tab w3 B (n+1) (upd f a i v)∧w.grownBy w3 (some B):=by
 have h':=h
 obtain⟨D,⟨es,clock,hb,F,hs,hD⟩,hT⟩:=h
 obtain⟨v0,st,es1,clock1,hE,hd,hS⟩:=entry_then_store klaw Tryz.underlying178 (z:= .int .i64 0) zero hb F (key_of hw)
 refine⟨v0,st,_,hE,?_,⟨rfl,rfl,rfl,by simp[setBlock],fun j _ hj=>heap_setBlock_other hb _ (fun e=>hj (by rw[e]))⟩,fun v hv=>?_⟩
 ·rcases law.find w (key_of hw) es.toList F.keys with⟨h1,h2⟩|⟨j,e0,h1,h2,h3⟩
  ·have hE':(Instr.mapEntry 178 (.map (some B)) (.agg #[.int .i64 a,.int .i64 i])).run Tryz.prog w= .ok (.tuple #[.int .i64 0,goInt clock]) (setBlock w B (.map (es.push ⟨.agg #[.int .i64 a,.int .i64 i],.int .i64 0,clock⟩) (clock+1))):=by
    simp[Instr.mapEntry,run_underlying Tryz.underlying178,MapKept.run_getObj_map hb,law.check w false (key_of hw),h1,zero,MapKept.run_setObj_map _ hb,Result.andThen,setBlock]
   obtain⟨w',r,t,g⟩:=put_run h' hn (v:=0) hw (by decide)
   have r':(Instr.mapUpdate 178 (.map (some B)) (.agg #[.int .i64 a,.int .i64 i]) (.int .i64 0)).run Tryz.prog w= .ok () (setBlock w B (.map (es.push ⟨.agg #[.int .i64 a,.int .i64 i],.int .i64 0,clock⟩) (clock+1))):=by
    simp[Instr.mapUpdate,run_underlying Tryz.underlying178,MapKept.run_getObj_map hb,law.check w false (key_of hw),h1,MapKept.run_setObj_map _ hb,Result.andThen,setBlock]
   have ew:setBlock w B (.map es1 clock1)=w':=by
    rw[hE] at hE'
    rw[r] at r'
    injection hE' with _ e1
    injection r' with _ e2
    rw[e1,e2]
   have fz:f a i=0:=by
    have l1:=look_run h' hw
    have l2:(Instr.lookup 178 (.map (some B)) (.agg #[.int .i64 a,.int .i64 i]) false).run Tryz.prog w= .ok (.int .i64 0) w:=by
     simp[Instr.lookup,run_underlying Tryz.underlying178,MapKept.run_getObj_map hb,fun em=>law.check w em (key_of hw),h1,zero,Result.andThen]
    rw[l1] at l2
    injection l2 with e1 _
    simpa using e1
   rw[ew]
   refine t.congr fun b j=>?_
   unfold upd
   by_cases e:b=a∧j=i
   ·rw[if_pos e,e.1,e.2,fz]
   ·rw[if_neg e]
  ·have hj:es[j]?=some e0:=by simpa using h2
   have hsame:es.modify j (fun e=>{e with key:= .agg #[.int .i64 a,.int .i64 i]})=es:=by
    apply Array.ext'
    rw[Array.toList_modify,modify_eq_set _ _ _ _ h2]
    have:({e0 with key:= .agg #[.int .i64 a,.int .i64 i]}:MapEntry)=e0:=by rw[←h3]
    rw[this]
    exact set_self _ _ _ h2
   have hE':(Instr.mapEntry 178 (.map (some B)) (.agg #[.int .i64 a,.int .i64 i])).run Tryz.prog w= .ok (.tuple #[e0.val,goInt e0.born]) (setBlock w B (.map es clock)):=by
    simp[Instr.mapEntry,run_underlying Tryz.underlying178,MapKept.run_getObj_map hb,law.check w false (key_of hw),h1,hj,h3,law.stays w (key_of hw),hsame,MapKept.run_setObj_map _ hb,Result.andThen,setBlock]
   rw[hE] at hE'
   injection hE' with _ e1
   rw[e1]
   obtain⟨D',o1,t1⟩:=tab_block (w':=setBlock w B (.map es clock)) h' (by rw[heap_setBlock_same hb];exact hb.symm)
   exact⟨D',o1.mono (by omega),t1⟩
 ·obtain⟨es',clock',s1,s2⟩:=hS _ (.int .i64 v) (heap_setBlock_same hb _)
  obtain⟨w',r,t,g⟩:=put_run h' hn hw hv
  have ew:w'=setBlock w B (.map es' clock'):=by
   rw[r] at s2
   injection s2
  refine⟨_,s1,tab_block t ?_,⟨rfl,rfl,rfl,by simp[setBlock],fun j _ hj=>?_⟩⟩
  ·rw[ew,heap_setBlock_same hb,heap_setBlock_same (heap_setBlock_same hb _)]
  ·rw[heap_setBlock_other (heap_setBlock_same hb _) _ (fun e=>hj (by rw[e])),heap_setBlock_other hb _ (fun e=>hj (by rw[e]))]
end Entry
end Go.Proofs.YtlbgfdpcgpijhaaGreat
