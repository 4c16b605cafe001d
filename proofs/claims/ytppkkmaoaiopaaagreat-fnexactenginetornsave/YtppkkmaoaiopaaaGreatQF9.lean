/- Lemmas. -/
import Derived.Test.YtppkkmaoaiopaaaGreatQF4
import Derived.Maps.RangeWalk
import Derived.Maps.Ext
open Go.ChangeShapes Go.WideShapes Go.ChangeAt Go.RowKit
set_option linter.unusedVariables false
set_option linter.unusedSimpArgs false
set_option maxRecDepth 100000
set_option maxHeartbeats 32000000
namespace Go.Proofs.YtppkkmaoaiopaaaGreat
namespace Tab
open Bals Triples
open Go.Maps (Keyed)
theorem laidOut:laidOutB Tryz.prog=true:=by kernel_rfl
theorem row:(209:TypeId)<Tryz.prog.types.size:=of_decide_eq_true (by kernel_rfl)
theorem cells:Tryz.prog.cellsOf 209=2:=by kernel_rfl
theorem wide:(match Tryz.prog.underlying 209 with|some (.array _ _)|some (.struct _)=>true|_=>false)=true:=by rw[Tryz.underlying209]
theorem deep:Tryz.prog.keyTypeAt (Tryz.prog.types.size+1) 209=true:=by kernel_rfl
theorem law:Keyed Tryz.prog 209:=Keyed.of_law (deep_law_laid laidOut (m:=2) (by omega) row (by kernel_rfl) wide)
theorem formed{c0 c1:Value}:(Value.agg #[c0,c1]).formed Tryz.prog 209=true:=by simp[Value.formed,Tryz.underlying209,cells]
theorem zero(w:World):(zeroValue 3).run Tryz.prog w= .ok (.int .i64 0) w:=by kernel_rfl
def Wf(a i:Int):Prop:=(Lit.int .i64 a).wf=true∧(Lit.int .i64 i).wf=true
theorem wf_no{a i:Int}(ha:NoOk a)(hi:NoOk i):Wf a i:=by
 unfold NoOk at ha hi
 exact⟨WalkArith.wf_i64 (by omega),WalkArith.wf_i64 (by omega)⟩
theorem wf_amt{x:Int}(h:Amt x):(Lit.int .i64 x).wf=true:=by
 unfold Amt at h
 exact WalkArith.wf_i64 (by omega)
def kl(a i:Int):Lit:= .string (keyBytes [.int .i64 a,.int .i64 i])
theorem lits(a i:Int)(h:Wf a i):Tryz.prog.keyLits (Tryz.prog.types.size+1) 209 [.int .i64 a,.int .i64 i]=some [.int .i64 a,.int .i64 i]:=by
 obtain⟨m,hm⟩:∃m,Tryz.prog.types.size=m+1:=Nat.exists_eq_succ_of_ne_zero (Nat.ne_of_gt (Nat.lt_of_le_of_lt (Nat.zero_le _) row))
 rw[hm]
 have c3:Tryz.prog.cellsOf 3=1:=by kernel_rfl
 simp[Program.keyLits,Tryz.underlying209,cells,c3,Tryz.underlying3,h.1,h.2]
theorem key_of{a i:Int}(h:Wf a i):keyOf Tryz.prog 209 (.agg #[.int .i64 a,.int .i64 i])=some (kl a i):=by
 have l:=lits a i h
 unfold keyOf
 rw[Tryz.underlying209]
 have kt:Tryz.prog.keyType 209=true:=deep
 simp only[kt,formed,Bool.and_self,if_true]
 show Option.map _ (Tryz.prog.keyLits (Tryz.prog.types.size+1) 209 [.int .i64 a,.int .i64 i])=_
 rw[l]
 rfl
theorem key_inv{v:Value}{l:Lit}(h:keyOf Tryz.prog 209 v=some l):∃x:Int×Int,v= .agg #[.int .i64 x.1,.int .i64 x.2]∧Wf x.1 x.2∧l=kl x.1 x.2:=by
 obtain⟨xs,L,rfl,h1,rfl⟩:=keyOf_top wide h
 obtain⟨m,hm⟩:∃m,Tryz.prog.types.size=m+1:=Nat.exists_eq_succ_of_ne_zero (Nat.ne_of_gt (Nat.lt_of_le_of_lt (Nat.zero_le _) row))
 rw[hm] at h1
 have c3:Tryz.prog.cellsOf 3=1:=by kernel_rfl
 obtain⟨xs⟩:=xs
 match xs,h1 with
 |[],h1=>simp[Program.keyLits,Tryz.underlying209,cells] at h1
 |[_],h1=>simp[Program.keyLits,Tryz.underlying209,cells] at h1
 |_::_::_::_,h1=>simp[Program.keyLits,Tryz.underlying209,cells] at h1
 |[v0,v1],h1=>
  cases v0<;>cases v1<;>simp[Program.keyLits,Tryz.underlying209,cells,c3,Tryz.underlying3] at h1
  rename_i q0 a q1 i
  by_cases c0:q0= .i64∧(Lit.int .i64 a).wf=true
  ·by_cases c1:q1= .i64∧(Lit.int .i64 i).wf=true
   ·obtain⟨rfl,w0⟩:=c0
    obtain⟨rfl,w1⟩:=c1
    simp[w0,w1] at h1
    subst h1
    exact⟨(a,i),rfl,⟨w0,w1⟩,rfl⟩
   ·simp[c0,c1] at h1
  ·simp[c0] at h1
theorem kl_inj{a i b j:Int}(h:Wf a i)(k:Wf b j)(e:kl a i=kl b j):a=b∧i=j:=by
 have:=law.inj (key_of h) (e▸key_of k)
 simpa using this
theorem kl_key{a i:Int}(h:Wf a i):WideAt.IsKeyLit (kl a i):=law.key (key_of h)
abbrev D0:Type:=DataW Unit
def Tells(D:D0)(f:Int→Int→Int):Prop:=(∀a i,Wf a i→D.atKey (kl a i) (.lit (.int .i64 0))= .lit (.int .i64 (f a i)))∧∀a i,f a i≠0→Wf a i
def Tab(w:World)(B n:Nat)(f:Int→Int→Int):Prop:=∃D:D0,w.ownsMap Tryz.prog 209 (plainElem Tryz.prog 3) B n D∧Tells D f
theorem tab_made(w:World):Tab (w.alloc (.map #[] 0)) w.heap.size 0 (fun _ _=>0):=
 ⟨.map [],World.ownsMap_made _ _ _ _,fun a i h=>rfl,fun a i h=>absurd rfl h⟩
theorem Tab.lt{w:World}{B n:Nat}{f:Int→Int→Int}(h:Tab w B n f):B<w.heap.size:=by
 obtain⟨D,h1,_⟩:=h
 exact h1.lt
theorem Tab.kept{w w':World}{B n:Nat}{f:Int→Int→Int}{row:Option Nat}(h:Tab w B n f)(hg:w.grownBy w' row)(hne:some B≠row):Tab w' B n f:=by
 obtain⟨D,h1,h2⟩:=h
 exact⟨D,h1.kept hg hne,h2⟩
theorem below_grown{b:Nat}{w w':World}(h:Below b w w')(hb:b=w.heap.size):w.grownBy w' none:=by
 subst hb
 exact⟨h.os,h.tape,h.output,h.size,fun k hk _=>h.block k hk⟩
theorem Tab.below{w w':World}{B n:Nat}{f:Int→Int→Int}(h:Tab w B n f)(k:Below w.heap.size w w'):Tab w' B n f:=h.kept (below_grown k rfl) (by simp)
theorem Tab.congr{w:World}{B n:Nat}{f g:Int→Int→Int}(h:Tab w B n f)(e:∀a i,f a i=g a i):Tab w B n g:=by
 have:f=g:=funext fun a=>funext fun i=>e a i
 exact this▸h
theorem tells_put{D:D0}{f:Int→Int→Int}(h:Tells D f)(hD:Maps.IsMap D){a i v:Int}(hw:Wf a i):Tells (D.put (kl a i) (.lit (.int .i64 v))) (upd f a i v):=by
 refine⟨fun b j hb=>?_,fun b j hb=>?_⟩
 ·by_cases e:b=a∧j=i
  ·obtain⟨rfl,rfl⟩:=e
   rw[upd_same,Maps.atKey_put_same hD (kl_key hw)]
  ·rw[upd_other _ _ _ _ _ _ e,Maps.atKey_put_other (fun q=>e (kl_inj hb hw q)),h.1 b j hb]
 ·by_cases e:b=a∧j=i
  ·obtain⟨rfl,rfl⟩:=e
   exact hw
  ·rw[upd_other _ _ _ _ _ _ e] at hb
   exact h.2 b j hb
theorem isMap_of{w:World}{k:TypeId}{R:Value→Option (D0×List MemPlace)}{B n:Nat}{D:D0}(h:w.ownsMap Tryz.prog k R B n D):Maps.IsMap D:=by
 obtain⟨es,clock,_,_,_,rfl⟩:=h
 exact⟨_,rfl⟩
theorem wp_put(w:World){ops:Array Oper}{rest:List Oper}{o:Oper}{s:Act}{Q:Exit→Act→World→Prop}
  (hg:o.guard=none)(m x y:Operand)(t:TypeId)(hop:o.op=Op.mapUpdate t m x y)(ht:Tryz.prog.underlying t=some (.map 209 3))(B n:Nat)(f:Int→Int→Int)(hm:s.eval m= .map (some B))(hown:Tab w B n f)(hn:n≤1048576)
  (a i v:Int)(hx:s.eval x= .agg #[.int .i64 a,.int .i64 i])(hy:s.eval y= .int .i64 v)(hw:Wf a i)(hv:(Lit.int .i64 v).wf=true)
  (hK:∀w',Tab w' B (n+1) (upd f a i v)→w.grownBy w' (some B)→wpList Tryz.prog ops Q rest (s.put o.dst undef) w'):wpList Tryz.prog ops Q (o::rest) s w:=by
 obtain⟨D,h1,h2⟩:=hown
 refine wpList_mapUpdate_own w hg m x y t hop 209 3 law ht _ B n D hm h1 (by unfold maxLen;omega) _ _ (kl a i) hx hy (key_of hw) (.lit (.int .i64 v)) [] (plainElem_int Tryz.underlying3 hv) ?_
 intro w' h3 h4
 exact hK w' ⟨_,h3,tells_put h2 (isMap_of h1) hw⟩ h4
def RTab(w:World)(B r n:Nat)(f:Int→Int→Int)(left:Int→Int→Bool)(cnt:Nat):Prop:=
 ∃(D:D0) (lf:Lit→Bool),w.ranges Tryz.prog 209 (plainElem Tryz.prog 3) B r n D lf cnt∧Tells D f∧∀a i,Wf a i→left a i=lf (kl a i)
theorem RTab.lt{w:World}{B r n:Nat}{f:Int→Int→Int}{left:Int→Int→Bool}{cnt:Nat}(h:RTab w B r n f left cnt):B<w.heap.size∧r<w.heap.size∧r≠B∧w.rangeLeft B r=cnt:=by
 obtain⟨D,lf,h1,_⟩:=h
 exact⟨h1.owns.lt,h1.lt,h1.ne,h1.left_eq⟩
theorem RTab.kept{w w':World}{B r n:Nat}{f:Int→Int→Int}{left:Int→Int→Bool}{cnt:Nat}{row:Option Nat}(h:RTab w B r n f left cnt)(hg:w.grownBy w' row)(hb:some B≠row)(hr:some r≠row):RTab w' B r n f left cnt:=by
 obtain⟨D,lf,h1,h2⟩:=h
 exact⟨D,lf,h1.kept hg hb hr,h2⟩
theorem wp_range(w:World){ops:Array Oper}{rest:List Oper}{o:Oper}{s:Act}{Q:Exit→Act→World→Prop}
  (hg:o.guard=none)(m:Operand)(t:TypeId)(hop:o.op=Op.range t m)(ht:Tryz.prog.underlying t=some (.map 209 3))(B n:Nat)(f:Int→Int→Int)(hm:s.eval m= .map (some B))(hown:Tab w B n f)
  (hK:∀w' left cnt,RTab w' B w.heap.size n f left cnt→cnt≤n→(∀a i,f a i≠0→left a i=true)→w.grownBy w' none→w'.heap.size=w.heap.size+1→wpList Tryz.prog ops Q rest (s.put o.dst (.pointer (some ⟨w.heap.size,0,none⟩))) w'):wpList Tryz.prog ops Q (o::rest) s w:=by
 obtain⟨D,h1,h2⟩:=hown
 refine wpList_range_own w hg m t hop 209 3 law ht _ B n D hm h1 ?_
 intro w' h3 h4 h5
 refine hK w' (fun a i=>Maps.has D (kl a i)) (Maps.size D) ⟨D,Maps.has D,h3,h2,fun a i _=>rfl⟩ ?_ ?_ h4 h5
 ·obtain⟨es,clock,_,_,hs,rfl⟩:=h1
  rw[Maps.size_eq,length_sorted]
  simpa using hs
 ·intro a i hf
  refine Classical.byContradiction fun nh=>?_
  have nh:Maps.has D (kl a i)=false:=by simpa using nh
  have e:=h2.1 a i (h2.2 a i hf)
  rw[Maps.atKey_of_not_has nh] at e
  have:(0:Int)=f a i:=by simpa using e
  exact hf this.symm
theorem wp_next(w:World){ops:Array Oper}{rest:List Oper}{o:Oper}{s:Act}{Q:Exit→Act→World→Prop}
  (hg:o.guard=none)(it:Operand)(hop:o.op=Op.next it false)(B r n:Nat)(f:Int→Int→Int)(left:Int→Int→Bool)(cnt:Nat)(hit:s.eval it= .pointer (some ⟨r,0,none⟩))(h:RTab w B r n f left cnt)
  (hDone:cnt=0→(∀a i,Wf a i→left a i=false)→wpList Tryz.prog ops Q rest (s.put o.dst (.tuple #[.bool false])) w)
  (hMore:∀(a i:Int) (w':World) (left':Int→Int→Bool) (cnt':Nat),Wf a i→(Lit.int .i64 (f a i)).wf=true→left a i=true→(∀b j,Wf b j→left' b j=(left b j&& !decide (b=a∧j=i)))→RTab w' B r n f left' cnt'→cnt'<cnt→w.grownBy w' (some r)→w'.heap.size=w.heap.size→
   (Instr.entry (.pointer (some ⟨r,0,none⟩))).run Tryz.prog w'= .ok (.tuple #[.agg #[.int .i64 a,.int .i64 i],.int .i64 (f a i)]) w'→wpList Tryz.prog ops Q rest (s.put o.dst (.tuple #[.bool true,.agg #[.int .i64 a,.int .i64 i],.int .i64 (f a i)])) w'):
  wpList Tryz.prog ops Q (o::rest) s w:=by
 obtain⟨D,lf,h1,h2,h3⟩:=h
 refine wpList_next_ranges (α:=Int×Int) (β:=Int) w hg it hop 209 law (plainElem Tryz.prog 3) (fun x=> .agg #[.int .i64 x.1,.int .i64 x.2]) (Value.int .i64) (fun key l hk=>by obtain⟨x,e,_⟩:=key_inv hk;exact⟨x,e⟩) (fun v y hv=>by obtain⟨c,rfl,_⟩:=plainElem_int_inv Tryz.underlying3 hv;exact⟨c,rfl⟩) B r n D lf cnt hit h1 ?_ ?_
 ·intro h4 h5
  exact hDone h4 (fun a i hw=>by rw[h3 a i hw,h5])
 ·intro x c l y w' cnt' hkey hlk hv hat hrg hlt hgr hsz hen
  obtain⟨⟨a,i⟩,e,hw,rfl⟩:=key_inv hkey
  obtain⟨c',ec,rfl,hwc⟩:=plainElem_int_inv Tryz.underlying3 hv
  cases ec
  obtain⟨x1,x2⟩:=x
  obtain⟨rfl,rfl⟩:x1=a∧x2=i:=by simpa using e
  have ef:f x1 x2=c:=by
   have:=h2.1 x1 x2 hw
   rw[hat] at this
   simpa using this.symm
  subst ef
  refine hMore x1 x2 w' (fun b j=>lf (kl b j)&& !(kl b j).sameKey (kl x1 x2)) cnt' hw hwc (by rw[h3 x1 x2 hw];exact hlk) (fun b j hb=>?_) ⟨D,_,hrg,h2,fun b j _=>rfl⟩ hlt hgr hsz hen
  rw[h3 b j hb]
  congr 2
  by_cases q:b=x1∧j=x2
  ·obtain⟨rfl,rfl⟩:=q
   rw[WideAt.sameKey_self (kl_key hb)]
   simp
  ·rw[Maps.sameKey_ne (fun e=>q (kl_inj hb hw e))]
   simp[q]
end Tab
end Go.Proofs.YtppkkmaoaiopaaaGreat
