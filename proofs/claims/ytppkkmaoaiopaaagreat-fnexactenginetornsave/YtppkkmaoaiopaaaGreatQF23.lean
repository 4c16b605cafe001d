/- Lemmas. -/
import Derived.Test.YtppkkmaoaiopaaaGreatQF0
import Derived.WalkKit
open Go.ChangeShapes Go.WideShapes Go.RowKit
set_option linter.unusedVariables false
set_option linter.unusedSimpArgs false
set_option maxRecDepth 100000
set_option maxHeartbeats 32000000
namespace Go.Proofs.YtppkkmaoaiopaaaGreat
namespace AnyInv
open Go
section
variable {P:Program} {ops:Array Oper} {Q:Exit→Act→World→Prop} {md:Region.Mode}
theorem ready_mem{listed:Array Bool}{i:Nat}(h:i∈Region.ready md ops listed):∃o,ops[i]?=some o∧i<ops.size∧listed.getD i true=false∧∀e∈o.after,Region.binds md e=true→listed.getD e.on false=true:=by
 unfold Region.ready at h
 rw[List.mem_filter] at h
 obtain⟨h1,h2⟩:=h
 have hi:i<ops.size:=List.mem_range.1 h1
 have ho:ops[i]?=some ops[i]:=Array.getElem?_eq_getElem hi
 refine⟨ops[i],ho,hi,?_,?_⟩
 ·simp only[Bool.and_eq_true,Bool.not_eq_true'] at h2
  exact h2.1
 ·intro e he hb
  rw[ho] at h2
  simp only[Bool.and_eq_true,Option.map_some,Option.getD_some,Array.all_eq_true'] at h2
  have:=h2.2 e he
  simpa[hb] using this
theorem mem_ready{listed:Array Bool}{i:Nat}{o:Oper}(ho:ops[i]?=some o)(hl:listed.getD i true=false)(h:∀e∈o.after,Region.binds md e=true→listed.getD e.on false=true):i∈Region.ready md ops listed:=by
 unfold Region.ready
 rw[List.mem_filter]
 refine⟨List.mem_range.2 (Array.getElem?_eq_some_iff.1 ho).1,?_⟩
 rw[ho]
 simp only[Bool.and_eq_true,Bool.not_eq_true',Option.map_some,Option.getD_some,Array.all_eq_true']
 refine⟨hl,fun e he=>?_⟩
 by_cases hb:Region.binds md e=true
 ·simp[h e he hb]
 ·simp[hb]
theorem wpAny_inv(I:Array Bool→Act→World→Prop)
  (hsz:∀listed a w,I listed a w→listed.size=ops.size)
  (hback:∀i o,ops[i]?=some o→∀e∈o.after,Region.binds md e=true→e.on<i)
  (hstep:∀listed a w i o,I listed a w→ops[i]?=some o→listed.getD i true=false→(∀e∈o.after,Region.binds md e=true→listed.getD e.on false=true)→wpOp P ops Q i (I (listed.setIfInBounds i true)) a w)
  (hdone:∀listed a w,I listed a w→(∀i,i<ops.size→listed.getD i true=true)→Q .normal a w):
  ∀(fuel:Nat) (listed:Array Bool) (a:Act) (w:World) (L:List Nat),I listed a w→L.length≤fuel→(∀i,i<ops.size→listed.getD i true=false→i∈L)→wpAny P md ops Q fuel listed a w:=by
 intro fuel
 induction fuel with
 |zero=>
  intro listed a w L hI hL hM
  have hnil:L=[]:=List.length_eq_zero_iff.1 (by omega)
  subst hnil
  have all:∀i,i<ops.size→listed.getD i true=true:=fun i hi=>by
   cases h:listed.getD i true
   ·exact absurd (hM i hi h) List.not_mem_nil
   ·rfl
  refine⟨?_,hdone _ _ _ hI all⟩
  apply List.eq_nil_iff_forall_not_mem.2
  intro i hi
  obtain⟨o,ho,hlt,hl,_⟩:=ready_mem hi
  rw[all i hlt] at hl
  cases hl
 |succ fuel ih=>
  intro listed a w L hI hL hM
  refine⟨fun hr=>hdone _ _ _ hI ?_,fun i hi=>?_⟩
  ·intro i
   induction i using Nat.strongRecOn with
   |ind i ihi=>
    intro hi
    cases h:listed.getD i true
    ·exfalso
     have ho:ops[i]?=some ops[i]:=Array.getElem?_eq_getElem hi
     have:=mem_ready (md:=md) ho h (fun e he hb=>by
      have hlt:=hback i _ ho e he hb
      have h1:=ihi e.on hlt (by omega)
      have hs:=hsz _ _ _ hI
      have hin:e.on<listed.size:=by omega
      simp only[Array.getD,hin,dite_true] at h1⊢
      exact h1)
     rw[hr] at this
     cases this
    ·rfl
  ·obtain⟨o,ho,hlt,hl,hd⟩:=ready_mem hi
   have hmem:=hM i hlt hl
   refine wpOp_mono (fun a' w' hI'=>ih _ a' w' (L.erase i) hI' ?_ ?_) (hstep listed a w i o hI ho hl hd)
   ·rw[List.length_erase_of_mem hmem]
    omega
   ·intro j hj hjl
    have hs:=hsz _ _ _ hI
    by_cases e:j=i
    ·subst e
     have hin:j<listed.size:=by omega
     simp[Array.getD,hin] at hjl
    ·have:listed.getD j true=false:=by
      have hin:j<listed.size:=by omega
      have ne:i≠j:=fun h=>e h.symm
      simp only[Array.getD,Array.size_setIfInBounds,hin,dite_true] at hjl⊢
      have h2:(listed.setIfInBounds i true)[j]'(by simpa using hin)=listed[j]:=(Array.getElem_setIfInBounds hin).trans (if_neg ne)
      exact h2.symm.trans hjl
     exact(List.mem_erase_of_ne e).2 (hM j hj this)
theorem wp_region_inv(I:Array Bool→Act→World→Prop){id:Nat}{a:Act}{w:World}(hm:P.follows .mixedOrders=true)
  (hsz:∀listed a w,I listed a w→listed.size=ops.size)
  (hback:∀i o,ops[i]?=some o→∀e∈o.after,Region.binds .any e=true→e.on<i)
  (h0:I (Array.replicate ops.size false) a w.drew)
  (hstep:∀listed a w i o,I listed a w→ops[i]?=some o→listed.getD i true=false→(∀e∈o.after,Region.binds .any e=true→listed.getD e.on false=true)→wpOp P ops Q i (I (listed.setIfInBounds i true)) a w)
  (hdone:∀listed a w,I listed a w→(∀i,i<ops.size→listed.getD i true=true)→Q .normal a w):(Code.region id ops true).wp P Q a w:=
 wp_region_any hm (wpAny_inv I hsz hback hstep hdone ops.size _ a _ (List.range ops.size) h0 (by simp) (fun i hi _=>List.mem_range.2 hi))
def backB(ops:Array Oper):Bool:=(List.range ops.size).all fun i=>((ops[i]?).map fun o=>o.after.all fun e=>decide (e.on<i)).getD true
def waitsB(ops:Array Oper)(D:List (List Nat)):Bool:=(List.range ops.size).all fun i=>((ops[i]?).map fun o=>(D.getD i []).all fun j=>o.after.any fun e=>Region.binds .any e&&e.on==j).getD true
theorem back_of{ops:Array Oper}(h:backB ops=true):∀i o,ops[i]?=some o→∀e∈o.after,Region.binds .any e=true→e.on<i:=by
 intro i o ho e he _
 unfold backB at h
 rw[List.all_eq_true] at h
 have:=h i (List.mem_range.2 (Array.getElem?_eq_some_iff.1 ho).1)
 rw[ho] at this
 simp only[Option.map_some,Option.getD_some,Array.all_eq_true'] at this
 exact of_decide_eq_true (this e he)
theorem waits_of{ops:Array Oper}{D:List (List Nat)}(h:waitsB ops D=true){i:Nat}{o:Oper}(ho:ops[i]?=some o){listed:Array Bool}(hd:∀e∈o.after,Region.binds .any e=true→listed.getD e.on false=true):∀j∈D.getD i [],listed.getD j false=true:=by
 intro j hj
 unfold waitsB at h
 rw[List.all_eq_true] at h
 have:=h i (List.mem_range.2 (Array.getElem?_eq_some_iff.1 ho).1)
 rw[ho] at this
 simp only[Option.map_some,Option.getD_some,List.all_eq_true] at this
 have h2:=this j hj
 rw[Array.any_eq_true'] at h2
 obtain⟨e,he,hb⟩:=h2
 simp only[Bool.and_eq_true,beq_iff_eq] at hb
 rw[←hb.2]
 exact hd e he hb.1
theorem wp_region_inv2(D:List (List Nat))(I:Array Bool→Act→World→Prop){id:Nat}{a:Act}{w:World}(hm:P.follows .mixedOrders=true)(hb:backB ops=true)(hw:waitsB ops D=true)
  (hsz:∀listed a w,I listed a w→listed.size=ops.size)
  (h0:I (Array.replicate ops.size false) a w.drew)
  (hstep:∀listed a w i,I listed a w→i<ops.size→listed.getD i true=false→(∀j∈D.getD i [],listed.getD j false=true)→wpOp P ops Q i (I (listed.setIfInBounds i true)) a w)
  (hdone:∀listed a w,I listed a w→(∀i,i<ops.size→listed.getD i true=true)→Q .normal a w):(Code.region id ops true).wp P Q a w:=
 wp_region_inv I hm hsz (back_of hb) h0 (fun listed a w i o hI ho hl hd=>hstep listed a w i hI (Array.getElem?_eq_some_iff.1 ho).1 hl (waits_of hw ho hd)) hdone
theorem wpOp_of{i:Nat}{o:Oper}{K:Act→World→Prop}{a:Act}{w:World}(ho:ops[i]?=some o)(hg:o.guard=none)(h:o.wp P a w K Q):wpOp P ops Q i K a w:=by
 unfold wpOp
 rw[ho]
 have:Region.wanted o (yielded ops a.tmps)=true:=by simp[Region.wanted,hg]
 simp only[this,if_true]
 exact Or.inl h
end
end AnyInv
end Go.Proofs.YtppkkmaoaiopaaaGreat
