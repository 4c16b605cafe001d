/- Texts of one proof, one behind the other: LaidE. -/
import Derived.Test.YtagmnociflkhcaaGreatDoorRows
import Derived.Test.YtagmnociflkhcaaGreatDoorCards
import Derived.Test.YtagmnociflkhcaaGreatDoorTie
import Derived.Test.YtagmnociflkhcaaGreatDoorQL0
import Derived.Test.YtagmnociflkhcaaGreatDoorQL34
import Derived.Stop.LaidErr
import Derived.WalkKit
import Derived.ProofKit
import Derived.OpenShut
import Derived.Deep.DeepHandedRow
set_option linter.unusedVariables false
set_option linter.unusedSimpArgs false
open Go.ChangeShapes Go.WideShapes Go.ChangeAt Go.RowKit
set_option maxRecDepth 100000
set_option maxHeartbeats 32000000
namespace Go.Proofs.YtagmnociflkhcaaGreatDoor
namespace LaidE
open Errs
theorem star: "*" ++ "errors.errorString" = "*errors.errorString" :=by decide
theorem rowE(u:TypeId)(h:Tryz.prog.typeName? 3 u=some "*errors.errorString"):u=201:=
 typeName_ptr_named (nm:= "errors.errorString") (by rw[star];kernel_rfl) (by kernel_rfl) (by decide) u (by rw[star];exact h)
def Fits(W:World):List (String×DataW Unit)→List Addr→Prop
 |[],[]=>True
 |x::l,a::al=>(W.var? Tryz.prog x.1=some #[.iface 201 (.pointer (some a))]∧∃c t,W.heap[a.block]?=some (.cells c t (0,0)))∧Fits W l al
 |_,_=>False
def Named(l:List (String×DataW Unit)):Prop:=∀x∈l,(∃g,Tryz.prog.globalNamed x.1=some g∧(Tryz.prog.globals[g]?).map (·.type)=some 131)∧∃t,x.2= .iface "*errors.errorString" (.ptr (.agg [.lit (.string t)]))
theorem fits_of{W:World}:∀(l:List (String×DataW Unit)) (ps:List MemPlace),Named l→DataW.LaidVars Tryz.prog W l ps→(∀b off,MemPlace.cell b off∈ps→(∃c t,W.heap[b]?=some (.cells c t (0,0)))∧∀u v,W.cell? ⟨b,off,none⟩=some (.iface u v)→Value.okWide Tryz.prog W .any 0 u v)→∃al,Fits W l al∧(∀a∈al,MemPlace.cell a.block a.off∈ps)∧(ps.Nodup→al.Nodup)
 |[],ps,_,h,_=>⟨[],trivial,fun a ha=>by simp at ha,fun _=>by simp⟩
 |(n,d)::l,ps,hn,h,hr=>by
  obtain⟨⟨g',hg',ht'⟩,t',hd'⟩:=hn (n,d) (by simp)
  obtain⟨g,t,cs,fuel,p,q,hg,ht,hv,hd,hq,rfl⟩:=h
  obtain rfl:=Option.some.inj (hg.symm.trans hg')
  obtain rfl:=Option.some.inj (ht.symm.trans ht')
  simp only at hd'
  subst hd'
  obtain⟨cs⟩:=cs
  have ok:∀u v,cs=[.iface u v]→Value.okWide Tryz.prog W .any 0 u v:=fun u v e=>by
   subst e
   exact(hr g 0 (by simp[MemPlace.row])).2 u v (by simpa using World.var?_cell hg hv 0)
  obtain⟨a,s,rfl,hc,_,_,rfl⟩:=errorString_of_trod Tryz.underlying131 rowE Tryz.underlying201 Tryz.underlying217 rfl rfl Tryz.underlying9 (by kernel_rfl) (by kernel_rfl) hd ok
  obtain⟨al,h1,h2,h3⟩:=fits_of l q (fun x hx=>hn x (by simp[hx])) hq (fun b off hm=>hr b off (List.mem_append_right _ hm))
  have ma:MemPlace.cell a.block a.off∈MemPlace.row a 1:=by simp[MemPlace.row]
  refine⟨a::al,⟨⟨hv,(hr a.block a.off (List.mem_append_left _ (List.mem_append_right _ ma))).1⟩,h1⟩,fun b hb=>?_,fun nd=>?_⟩
  ·rcases List.mem_cons.1 hb with rfl|hb
   ·exact List.mem_append_left _ (List.mem_append_right _ ma)
   ·exact List.mem_append_right _ (h2 b hb)
  ·obtain⟨_,n2,n3⟩:=List.nodup_append.1 nd
   exact List.nodup_cons.2 ⟨fun m=>n3 _ (List.mem_append_right _ ma) _ (h2 a m) rfl,h3 n2⟩
theorem fits_laid{W:World}{l:List (String×DataW Unit)}(hn:Named l)(h:laidMet Tryz.prog l W):∃al,Fits W l al∧al.Nodup:=by
 obtain⟨ps,h1,h2,h3⟩:=h
 obtain⟨al,k1,_,k3⟩:=fits_of l ps hn h1 h3
 exact⟨al,k1,k3 h2⟩
theorem var_lt{W:World}{n:String}{g:Nat}{cs:Array Value}(hg:Tryz.prog.globalNamed n=some g)(h:W.var? Tryz.prog n=some cs):g<W.heap.size:=by
 unfold World.var? at h
 simp only[hg,Option.bind_some] at h
 rcases Nat.lt_or_ge g W.heap.size with q|q
 ·exact q
 ·simp[Array.getElem?_eq_none q] at h
theorem var_below{W W':World}{n:String}{cs:Array Value}(h:W.var? Tryz.prog n=some cs)(b:Below W.heap.size W W'):W'.var? Tryz.prog n=some cs:=by
 cases hg:Tryz.prog.globalNamed n with
 |none=>unfold World.var? at h;simp[hg] at h
 |some g=>
  have lt:=var_lt hg h
  unfold World.var? at h⊢
  simp only[hg,Option.bind_some] at h⊢
  rw[b.block g lt]
  exact h
def Holds(W:World):List String→List Nat→List Value→Prop
 |[],[],[]=>True
 |n::ns,g::gs,x::xs=>(Tryz.prog.globalNamed n=some g∧(Tryz.prog.globals[g]?).map (·.type)=some 131∧W.var? Tryz.prog n=some #[x]∧IsIface x)∧Holds W ns gs xs
 |_,_,_=>False
theorem Holds.below{W W':World}(b:Below W.heap.size W W'):∀{ns:List String} {gs:List Nat} {xs:List Value},Holds W ns gs xs→Holds W' ns gs xs
 |[],[],[],_=>trivial
 |_::_,_::_,_::_,⟨⟨h1,h2,h3,h4⟩,h5⟩=>⟨⟨h1,h2,var_below h3 b,h4⟩,h5.below b⟩
 |[],[],_::_,h=>h.elim
 |[],_::_,_,h=>h.elim
 |_::_,[],_,h=>h.elim
 |_::_,_::_,[],h=>h.elim
theorem Holds.read{H:Type}(enc:TypeId×Value→H){W:World}(sp:Nat→Bool):∀{ns:List String} {gs:List Nat} {xs:List Value},Holds W ns gs xs→DataW.TrodVars enc Tryz.prog W sp ns (xs.map (tok enc)) (gs.map (MemPlace.cell · 0))
 |[],[],[],_=>rfl
 |_::_,g::_,x::_,⟨⟨h1,h2,h3,h4⟩,h5⟩=>⟨g,131,#[x],1,[],_,h1,h2,h3,trod_held Tryz.underlying131 h4 0,h5.read enc sp,rfl⟩
 |[],[],_::_,h=>h.elim
 |[],_::_,_,h=>h.elim
 |_::_,[],_,h=>h.elim
 |_::_,_::_,[],h=>h.elim
def at5(a0 a1 a2 a3 a4:Addr)(k:Nat):Addr:=if k=0 then a0 else if k=1 then a1 else if k=2 then a2 else if k=3 then a3 else a4
theorem cell_of{W:World}{n:String}{g:Nat}{x:Value}(hg:Tryz.prog.globalNamed n=some g)(h:W.var? Tryz.prog n=some #[x]):W.cell? ⟨g,0,none⟩=some x:=by simpa using World.var?_cell hg h 0
theorem row_lt{W:World}{b:Nat}(h:∃c t,W.heap[b]?=some (.cells c t (0,0))):b<W.heap.size:=by
 obtain⟨c,t,e⟩:=h
 exact(Array.getElem?_eq_some_iff.1 e).1
end LaidE
end Go.Proofs.YtagmnociflkhcaaGreatDoor
