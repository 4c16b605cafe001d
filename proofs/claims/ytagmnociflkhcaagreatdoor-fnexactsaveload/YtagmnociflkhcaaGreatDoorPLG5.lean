/- Texts of one proof, one behind the other: IIndex8, ITradesFit, ISg15, LaidE. -/
import Derived.Test.YtagmnociflkhcaaGreatDoorRows
import Derived.Test.YtagmnociflkhcaaGreatDoorCards
import Derived.Test.YtagmnociflkhcaaGreatDoorTie
import Derived.Test.YtagmnociflkhcaaGreatDoorPLG1
import Derived.Test.YtagmnociflkhcaaGreatDoorPLG2
import Derived.Test.YtagmnociflkhcaaGreatDoorPLG3
import Derived.Test.YtagmnociflkhcaaGreatDoorPLG4
import Derived.Stop.LaidErr
import Derived.WalkKit
import Derived.ProofKit
import Derived.OpenShut
import Derived.Deep.DeepHandedRow
set_option linter.unusedVariables false
set_option linter.unusedSimpArgs false
open Go.ChangeShapes Go.WideShapes Go.ChangeAt Go.RowKit
set_option maxRecDepth 100000
set_option maxHeartbeats 32000000
namespace Go.Proofs.YtagmnociflkhcaaGreatDoor
namespace IIndex8
open BMem Bks IRead
open Lots (Says says_of NoOk)
open Tup8 (T8 el8 At8 Holds8)
def FirstAt8(xs:List T8)(p:T8→Bool)(r:Int):Prop:=(r= -1∧∀x∈xs,p x=false)∨(0≤r∧∃x∈xs,p x=true)
theorem iIndexF8(w:World)(g n cap K:Nat)(caps:Array Value)(xs:List T8)(p:T8→Bool)(hl:xs.length=n)(h20:n≤1048576)(hg:g<w.heap.size)(h:At8 w g xs)
  (hK:∀(args:Array Value) (u:World),(callFunc K args).run Tryz.prog u= .ok (.enter K args) u)(hf:∀(u:World) (y:T8),Below w.heap.size w u→Calls Tryz.prog K (#[.agg #[.int .i64 y.1,.int .i64 y.2.1,.int .i64 y.2.2.1,.int .i64 y.2.2.2.1,.int .i64 y.2.2.2.2.1,.int .i64 y.2.2.2.2.2.1,.int .i64 y.2.2.2.2.2.2.1,.int .i64 y.2.2.2.2.2.2.2]]++caps) u fun e u'=>e= .returned (.bool (p y))∧Below u.heap.size u u'):
  Calls Tryz.prog 141 #[.slice (some ⟨g,0,none⟩) n cap,.func (.func K) #[] caps] w fun e w'=>∃r,FirstAt8 xs p r∧e= .returned (.int .i64 r)∧Below w.heap.size w w':=by
 have H:=zh h
 have HF:=zh hf
 have HL:=zh hl
 clear h hf hl
 go_enter Tryz.func141,Tryz.ntmps141
 go_wp2_with fail
 go_loopw [8] (fun i wr=>∃(k:Nat),k≤n∧i= .int .i64 k∧(∀j,j<k→p (el8 xs j)=false)∧Below w.heap.size w wr) (fun i _=>n-(intOf i).toNat)
 case atStart=>exact⟨0,by omega,rfl,fun j hj=>by omega,Below.refl _ _⟩
 case round=>
  obtain⟨k,hk,rfl,hn,hb⟩:=hrel
  have HB:=zh hb
  have HN:=zh hn
  by_cases t:k<n
  ·obtain⟨c0,c1,c2,c3,c4,c5,c6,c7⟩:=((zu H).below hb hg) k (by rw[zu HL];exact t)
   have hM:el8 xs k∈xs:=by
    simp[el8,List.getD,zu HL,t]
   have HM:=zh hM
   clear hb hn hM
   generalize hy:el8 xs k=y at *
   have HY:=zh hy
   clear hy
   go_wp2_with fail
   refine((zu HF) _ y (zu HB)).mono ?_
   rintro e w1 ⟨rfl,b1⟩
   have B1:=zh (next (zu HB) b1)
   clear b1 c0 c1 c2 c3 c4 c5 c6 c7
   cases hp:p y
   ·go_wp2
    go_roundw
    case rel=>exact⟨k+1,by omega,by go_num,fun j hj=>by
     by_cases e:j=k
     ·subst e;rw[zu HY];exact hp
     ·exact(zu HN) j (by omega),zu B1⟩
    case measure=>simp[intOf];omega
   ·go_wp2
    go_ret
    exact⟨k,.inr ⟨by omega,y,zu HM,hp⟩,rfl,zu B1⟩
  ·clear hb hn
   have hkn:k=n:=by omega
   have E0:=zh (show ∀x∈xs,p x=false from fun x hx=>by
    obtain⟨j,hj,rfl⟩:=List.getElem_of_mem hx
    have:=(zu HN) j (by rw[zu HL] at hj;omega)
    simpa[el8,List.getD,hj] using this)
   clear hkn
   go_wp2
   go_ret
   exact⟨-1,.inl ⟨rfl,zu E0⟩,rfl,zu HB⟩
theorem iContainsF8(w:World)(g n cap K:Nat)(caps:Array Value)(xs:List T8)(p:T8→Bool)(b:Bool)(hl:xs.length=n)(h20:n≤1048576)(hg:g<w.heap.size)(h:At8 w g xs)
  (hK:∀(args:Array Value) (u:World),(callFunc K args).run Tryz.prog u= .ok (.enter K args) u)(hf:∀(u:World) (y:T8),Below w.heap.size w u→Calls Tryz.prog K (#[.agg #[.int .i64 y.1,.int .i64 y.2.1,.int .i64 y.2.2.1,.int .i64 y.2.2.2.1,.int .i64 y.2.2.2.2.1,.int .i64 y.2.2.2.2.2.1,.int .i64 y.2.2.2.2.2.2.1,.int .i64 y.2.2.2.2.2.2.2]]++caps) u fun e u'=>e= .returned (.bool (p y))∧Below u.heap.size u u')(hb:Says b (∃x∈xs,p x=true)):
  Calls Tryz.prog 120 #[.slice (some ⟨g,0,none⟩) n cap,.func (.func K) #[] caps] w fun e w'=>e= .returned (.bool b)∧Below w.heap.size w w':=by
 have H:=zh h
 have HF:=zh hf
 have HL:=zh hl
 have T:=zh hb
 clear h hf hl hb
 go_enter Tryz.func120,Tryz.ntmps120
 go_wp2_with fail
 refine(iIndexF8 _ g n cap K caps xs p (zu HL) h20 hg (zu H) hK (zu HF)).mono ?_
 rintro e w1 ⟨r,hr,rfl,b1⟩
 have B1:=zh b1
 have hd:decide (0≤r)=b:=by
  rcases hr with⟨rfl,hr⟩|⟨h0,hr⟩
  ·rw[(zu T).not (fun⟨x,hx,e⟩=>by rw[hr x hx] at e;cases e)];rfl
  ·rw[(zu T).of hr];exact decide_eq_true h0
 clear b1 hr
 go_wp2
 go_ret
 exact⟨rfl,zu B1⟩
end IIndex8
namespace ITradesFit
open BMem Bks IRead IHave ITrade ILists IBalsFit IIndex8
open Lots (Says says_of NoOk)
open Tup8 (T8 el8 At8 Holds8)
noncomputable def unfitB (b:Bk) (t:T8):Bool:= @decide (¬TradeFit b t) (Classical.propDecidable _)
theorem unfit_says(b:Bk)(t:T8):Says (!(unfitB b t)) (TradeFit b t):=by
 unfold unfitB
 by_cases h:TradeFit b t
 ·rw[@decide_eq_false _ (Classical.propDecidable _) (fun n:¬TradeFit b t=>n h)]
  exact⟨fun _=>h,fun _=>rfl⟩
 ·rw[@decide_eq_true _ (Classical.propDecidable _) h]
  exact⟨fun e=>Bool.noConfusion e,fun e=>absurd e h⟩
end ITradesFit
namespace ISg15
open Fil14 OpensF14 DiskH14 DkH14 SDk14 SOk14 SegP15
theorem iSeg(w:World)(n:Int):Calls Tryz.prog 23 #[.int .i64 n] w fun e w'=>e= .returned (.bool (okS n))∧w'=w:=by
 unfold okS
 by_cases h0:0≤n
 ·by_cases h1:n≤19
  ·rw[decide_eq_true ⟨h0,h1⟩]
   have a:n≥0:=h0
   have b:n<20:=by omega
   clear h1
   go_enter Tryz.func23,Tryz.ntmps23
   go_wp2
   go_ret
   exact⟨rfl,rfl⟩
  ·rw[decide_eq_false (fun q=>h1 q.2)]
   have a:n≥0:=h0
   have b:¬n<20:=by omega
   clear h1
   go_enter Tryz.func23,Tryz.ntmps23
   go_wp2
   go_ret
   exact⟨rfl,rfl⟩
 ·rw[decide_eq_false (fun q=>h0 q.1)]
  have a:¬n≥0:=h0
  go_enter Tryz.func23,Tryz.ntmps23
  go_wp2
  go_ret
  exact⟨rfl,rfl⟩
theorem iSegOk(w:World)(n:Int)(b:Bool)(h:okS n=b):Calls Tryz.prog 23 #[.int .i64 n] w fun e w'=>e= .returned (.bool b)∧w'=w:=by
 rw[←h]
 exact iSeg w n
end ISg15
namespace LaidE
open Errs
theorem star: "*" ++ "errors.errorString" = "*errors.errorString" :=by decide
theorem rowE(u:TypeId)(h:Tryz.prog.typeName? 3 u=some "*errors.errorString"):u=201:=
 typeName_ptr_named (nm:= "errors.errorString") (by rw[star];kernel_rfl) (by kernel_rfl) (by decide) u (by rw[star];exact h)
def Fits(W:World):List (String×DataW Unit)→List Addr→Prop
 |[],[]=>True
 |x::l,a::al=>(W.var? Tryz.prog x.1=some #[.iface 201 (.pointer (some a))]∧∃c t,W.heap[a.block]?=some (.cells c t (0,0)))∧Fits W l al
 |_,_=>False
def Named(l:List (String×DataW Unit)):Prop:=∀x∈l,(∃g,Tryz.prog.globalNamed x.1=some g∧(Tryz.prog.globals[g]?).map (·.type)=some 131)∧∃t,x.2= .iface "*errors.errorString" (.ptr (.agg [.lit (.string t)]))
theorem fits_of{W:World}:∀(l:List (String×DataW Unit)) (ps:List MemPlace),Named l→DataW.LaidVars Tryz.prog W l ps→(∀b off,MemPlace.cell b off∈ps→(∃c t,W.heap[b]?=some (.cells c t (0,0)))∧∀u v,W.cell? ⟨b,off,none⟩=some (.iface u v)→Value.okWide Tryz.prog W .any 0 u v)→∃al,Fits W l al∧(∀a∈al,MemPlace.cell a.block a.off∈ps)∧(ps.Nodup→al.Nodup)
 |[],ps,_,h,_=>⟨[],trivial,fun a ha=>by simp at ha,fun _=>by simp⟩
 |(n,d)::l,ps,hn,h,hr=>by
  obtain⟨⟨g',hg',ht'⟩,t',hd'⟩:=hn (n,d) (by simp)
  obtain⟨g,t,cs,fuel,p,q,hg,ht,hv,hd,hq,rfl⟩:=h
  obtain rfl:=Option.some.inj (hg.symm.trans hg')
  obtain rfl:=Option.some.inj (ht.symm.trans ht')
  simp only at hd'
  subst hd'
  obtain⟨cs⟩:=cs
  have ok:∀u v,cs=[.iface u v]→Value.okWide Tryz.prog W .any 0 u v:=fun u v e=>by
   subst e
   exact(hr g 0 (by simp[MemPlace.row])).2 u v (by simpa using World.var?_cell hg hv 0)
  obtain⟨a,s,rfl,hc,_,_,rfl⟩:=errorString_of_trod Tryz.underlying131 rowE Tryz.underlying201 Tryz.underlying217 rfl rfl Tryz.underlying9 (by kernel_rfl) (by kernel_rfl) hd ok
  obtain⟨al,h1,h2,h3⟩:=fits_of l q (fun x hx=>hn x (by simp[hx])) hq (fun b off hm=>hr b off (List.mem_append_right _ hm))
  have ma:MemPlace.cell a.block a.off∈MemPlace.row a 1:=by simp[MemPlace.row]
  refine⟨a::al,⟨⟨hv,(hr a.block a.off (List.mem_append_left _ (List.mem_append_right _ ma))).1⟩,h1⟩,fun b hb=>?_,fun nd=>?_⟩
  ·rcases List.mem_cons.1 hb with rfl|hb
   ·exact List.mem_append_left _ (List.mem_append_right _ ma)
   ·exact List.mem_append_right _ (h2 b hb)
  ·obtain⟨_,n2,n3⟩:=List.nodup_append.1 nd
   exact List.nodup_cons.2 ⟨fun m=>n3 _ (List.mem_append_right _ ma) _ (h2 a m) rfl,h3 n2⟩
theorem fits_laid{W:World}{l:List (String×DataW Unit)}(hn:Named l)(h:laidMet Tryz.prog l W):∃al,Fits W l al∧al.Nodup:=by
 obtain⟨ps,h1,h2,h3⟩:=h
 obtain⟨al,k1,_,k3⟩:=fits_of l ps hn h1 h3
 exact⟨al,k1,k3 h2⟩
theorem var_lt{W:World}{n:String}{g:Nat}{cs:Array Value}(hg:Tryz.prog.globalNamed n=some g)(h:W.var? Tryz.prog n=some cs):g<W.heap.size:=by
 unfold World.var? at h
 simp only[hg,Option.bind_some] at h
 rcases Nat.lt_or_ge g W.heap.size with q|q
 ·exact q
 ·simp[Array.getElem?_eq_none q] at h
theorem var_below{W W':World}{n:String}{cs:Array Value}(h:W.var? Tryz.prog n=some cs)(b:Below W.heap.size W W'):W'.var? Tryz.prog n=some cs:=by
 cases hg:Tryz.prog.globalNamed n with
 |none=>unfold World.var? at h;simp[hg] at h
 |some g=>
  have lt:=var_lt hg h
  unfold World.var? at h⊢
  simp only[hg,Option.bind_some] at h⊢
  rw[b.block g lt]
  exact h
def Holds(W:World):List String→List Nat→List Value→Prop
 |[],[],[]=>True
 |n::ns,g::gs,x::xs=>(Tryz.prog.globalNamed n=some g∧(Tryz.prog.globals[g]?).map (·.type)=some 131∧W.var? Tryz.prog n=some #[x]∧IsIface x)∧Holds W ns gs xs
 |_,_,_=>False
theorem Holds.below{W W':World}(b:Below W.heap.size W W'):∀{ns:List String} {gs:List Nat} {xs:List Value},Holds W ns gs xs→Holds W' ns gs xs
 |[],[],[],_=>trivial
 |_::_,_::_,_::_,⟨⟨h1,h2,h3,h4⟩,h5⟩=>⟨⟨h1,h2,var_below h3 b,h4⟩,h5.below b⟩
 |[],[],_::_,h=>h.elim
 |[],_::_,_,h=>h.elim
 |_::_,[],_,h=>h.elim
 |_::_,_::_,[],h=>h.elim
theorem Holds.read{H:Type}(enc:TypeId×Value→H){W:World}(sp:Nat→Bool):∀{ns:List String} {gs:List Nat} {xs:List Value},Holds W ns gs xs→DataW.TrodVars enc Tryz.prog W sp ns (xs.map (tok enc)) (gs.map (MemPlace.cell · 0))
 |[],[],[],_=>rfl
 |_::_,g::_,x::_,⟨⟨h1,h2,h3,h4⟩,h5⟩=>⟨g,131,#[x],1,[],_,h1,h2,h3,trod_held Tryz.underlying131 h4 0,h5.read enc sp,rfl⟩
 |[],[],_::_,h=>h.elim
 |[],_::_,_,h=>h.elim
 |_::_,[],_,h=>h.elim
 |_::_,_::_,[],h=>h.elim
def at5(a0 a1 a2 a3 a4:Addr)(k:Nat):Addr:=if k=0 then a0 else if k=1 then a1 else if k=2 then a2 else if k=3 then a3 else a4
theorem cell_of{W:World}{n:String}{g:Nat}{x:Value}(hg:Tryz.prog.globalNamed n=some g)(h:W.var? Tryz.prog n=some #[x]):W.cell? ⟨g,0,none⟩=some x:=by simpa using World.var?_cell hg h 0
theorem row_lt{W:World}{b:Nat}(h:∃c t,W.heap[b]?=some (.cells c t (0,0))):b<W.heap.size:=by
 obtain⟨c,t,e⟩:=h
 exact(Array.getElem?_eq_some_iff.1 e).1
end LaidE
end Go.Proofs.YtagmnociflkhcaaGreatDoor
