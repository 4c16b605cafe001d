/- Texts of one proof, one behind the other: TabF14, ITb14, PTab14. -/
import Derived.Test.YtagmnociflkhcaaGreatDoorRows
import Derived.Test.YtagmnociflkhcaaGreatDoorCards
import Derived.Test.YtagmnociflkhcaaGreatDoorTie
import Derived.Test.YtagmnociflkhcaaGreatDoorQL0
import Derived.Test.YtagmnociflkhcaaGreatDoorQL21
import Derived.Maps.OwnSet
set_option linter.unusedVariables false
set_option linter.unusedSimpArgs false
open Go.ChangeShapes Go.WideShapes Go.ChangeAt Go.RowKit
set_option maxRecDepth 100000
set_option maxHeartbeats 32000000
namespace Go.Proofs.YtagmnociflkhcaaGreatDoor
namespace TabF14
open Fil14 OpensF14 DiskH14 DkH14 SDk14 SOk14
open Go.Maps (Keyed)
theorem law:Keyed Tryz.prog 3:=Maps.int_keyed Tryz.underlying3
def Wf(n:Int):Prop:=(Lit.int .i64 n).wf=true
theorem wf_ok{n:Int}(h:okN n=true):Wf n:=by
 unfold okN at h
 exact WalkArith.wf_i64 (by simp at h;omega)
abbrev z0:TF:=(0,ByteArray.empty,ByteArray.empty)
abbrev fV(p:TF):Value:= .agg #[.int .i64 p.1,.string p.2.1,.string p.2.2]
theorem fV_inj{p q:TF}(h:fV p=fV q):p=q:=by
 obtain⟨a,b,c⟩:=p
 obtain⟨d,e,f⟩:=q
 simp[fV] at h
 simp[h]
theorem zero(w:World):(zeroValue 66).run Tryz.prog w= .ok (fV z0) w:=by kernel_rfl
open Classical in
noncomputable def rF (v:Value):Option (DataW TF×List MemPlace):=if h:∃p,v=fV p then some (.held h.choose,[]) else none
theorem rF_mk(p:TF):rF (fV p)=some (.held p,[]):=by
 unfold rF
 have h:∃q,fV p=fV q:=⟨p,rfl⟩
 rw[dif_pos h,←fV_inj h.choose_spec]
theorem rF_inv{v:Value}{d:DataW TF}{ps:List MemPlace}(h:rF v=some (d,ps)):∃p,v=fV p∧d= .held p:=by
 unfold rF at h
 split at h
 ·rename_i q
  have e:DataW.held q.choose=d:=by simpa using congrArg (fun o=>o.map (·.1)) h
  exact⟨q.choose,q.choose_spec,e.symm⟩
 ·cases h
theorem key_of{n:Int}(h:Wf n):keyOf Tryz.prog 3 (.int .i64 n)=some (.int .i64 n):=Maps.keyOf_int_mk Tryz.underlying3 h
def upd(f:Int→Option TF)(k:Int)(p:Option TF):Int→Option TF:=fun j=>if j=k then p else f j
def Tf(w:World)(B n:Nat)(f:Int→Option TF):Prop:=∃D:DataW TF,w.ownsMap Tryz.prog 3 rF B n D∧∀k,Wf k→D.atKey (.int .i64 k) (.held z0)= .held ((f k).getD z0)∧Maps.has D (.int .i64 k)=(f k).isSome
theorem tf_made(w:World):Tf (w.alloc (.map #[] 0)) w.heap.size 0 (fun _=>none):=
 ⟨.map [],World.ownsMap_made _ _ _ _,fun k h=>⟨rfl,rfl⟩⟩
theorem Tf.lt{w:World}{B n:Nat}{f:Int→Option TF}(h:Tf w B n f):B<w.heap.size:=by
 obtain⟨D,h1,_⟩:=h
 exact h1.lt
theorem Tf.kept{w w':World}{B n:Nat}{f:Int→Option TF}{row:Option Nat}(h:Tf w B n f)(hg:w.grownBy w' row)(hne:some B≠row):Tf w' B n f:=by
 obtain⟨D,h1,h2⟩:=h
 exact⟨D,h1.kept hg hne,h2⟩
theorem below_grown{w w':World}(h:Below w.heap.size w w'):w.grownBy w' none:=⟨h.os,h.tape,h.output,h.size,fun k hk _=>h.block k hk⟩
theorem Tf.below{w w':World}{B n:Nat}{f:Int→Option TF}(h:Tf w B n f)(k:Below w.heap.size w w'):Tf w' B n f:=h.kept (below_grown k) (by simp)
theorem Tf.drew{w:World}{B n:Nat}{f:Int→Option TF}(h:Tf w B n f):Tf w.drew B n f:=h.below (Below.refl _ _).drew
theorem isMap_of{w:World}{B n:Nat}{D:DataW TF}(h:w.ownsMap Tryz.prog 3 rF B n D):Maps.IsMap D:=by
 obtain⟨es,clock,_,_,_,rfl⟩:=h
 exact⟨_,rfl⟩
theorem key_ne{j k:Int}(h:j≠k):Lit.int .i64 j≠Lit.int .i64 k:=fun e=>h (by simpa using e)
theorem wp_have(w:World){ops:Array Oper}{rest:List Oper}{o:Oper}{s:Act}{Q:Exit→Act→World→Prop}
  (hg:o.guard=none)(m x:Operand)(hop:o.op=Op.lookup 87 m x true)(B n:Nat)(f:Int→Option TF)(hm:s.eval m= .map (some B))(hown:Tf w B n f)(k:Int)(hx:s.eval x= .int .i64 k)(hw:Wf k)
  (p:TF)(b:Bool)(hp:(f k).getD z0=p)(hb:(f k).isSome=b)
  (hK:wpList Tryz.prog ops Q rest (s.put o.dst (.tuple #[.agg #[.int .i64 p.1,.string p.2.1,.string p.2.2],.bool b])) w):wpList Tryz.prog ops Q (o::rest) s w:=by
 obtain⟨D,h1,h2⟩:=hown
 subst hp hb
 refine wpList_lookup_own_ok w hg m x 87 hop 3 66 law Tryz.underlying87 rF (zero w) (.held z0) [] (rF_mk z0) B n D hm h1 _ (.int .i64 k) hx (key_of hw) ?_
 intro v ps hv
 obtain⟨p,rfl,e⟩:=rF_inv hv
 rw[(h2 k hw).1] at e
 have e':(f k).getD z0=p:=by simpa using e
 rw[(h2 k hw).2,←e']
 exact hK
theorem wp_put(w:World){ops:Array Oper}{rest:List Oper}{o:Oper}{s:Act}{Q:Exit→Act→World→Prop}
  (hg:o.guard=none)(m x y:Operand)(hop:o.op=Op.mapUpdate 87 m x y)(B n:Nat)(f:Int→Option TF)(hm:s.eval m= .map (some B))(hown:Tf w B n f)(hn:n≤1048576)(k:Int)(p:TF)(hx:s.eval x= .int .i64 k)(hy:s.eval y= .agg #[.int .i64 p.1,.string p.2.1,.string p.2.2])(hw:Wf k)
  (hK:∀w',Tf w' B (n+1) (upd f k (some p))→w.grownBy w' (some B)→wpList Tryz.prog ops Q rest (s.put o.dst undef) w'):wpList Tryz.prog ops Q (o::rest) s w:=by
 obtain⟨D,h1,h2⟩:=hown
 refine wpList_mapUpdate_own w hg m x y 87 hop 3 66 law Tryz.underlying87 rF B n D hm h1 (by unfold maxLen;omega) _ _ (.int .i64 k) hx hy (key_of hw) (.held p) [] (rF_mk p) ?_
 intro w' h3 h4
 refine hK w' ⟨_,h3,fun j hj=>?_⟩ h4
 unfold upd
 by_cases e:j=k
 ·subst e
  rw[if_pos rfl,Maps.atKey_put_same (isMap_of h1) (law.key (key_of hw)),Maps.has_put_same (isMap_of h1) (law.key (key_of hw))]
  exact⟨rfl,rfl⟩
 ·rw[if_neg e,Maps.atKey_put_other (key_ne e),Maps.has_put_other (key_ne e)]
  exact h2 j hj
def tabN(ps:List TF):Nat→Int→Option TF
 |0=>fun _=>none
 |k+1=>upd (tabN ps k) (elF ps k).1 (some (elF ps k))
def tabOf(ps:List TF):Int→Option TF:=tabN ps ps.length
end TabF14
namespace ITb14
open Fil14 OpensF14 DiskH14 DkH14 SDk14 SOk14 SLess14 TabF14
theorem wd_grown{w wr wz:World}{x:Dx}{B:Nat}(h:Wd w wr x)(k:wr.grownBy wz (some B))(hB:w.heap.size<B)(hx:∀g,x.a=some ⟨g,0,none⟩→g≠B):Wd w wz x:=by
 refine⟨(App14.kcell k 0 h.lt (by omega)).trans h.c0,(App14.kcell k 1 h.lt (by omega)).trans h.c1,Nat.lt_of_lt_of_le h.lt k.size,grow_low h.b k ⟨by omega,Nat.le_of_lt h.lt⟩,⟨h.r.e,fun g e=>?_,h.r.n⟩⟩
 obtain⟨l,a⟩:=h.r.r g e
 have c:=fun o=>App14.kcell k o l (hx g e)
 refine⟨Nat.lt_of_lt_of_le l k.size,fun i hi=>?_⟩
 obtain⟨a0,a1,a2⟩:=a i hi
 exact⟨(c _).trans a0,(c _).trans a1,(c _).trans a2⟩
theorem iTable(w:World)(x:Dx)(hr:RdD w x)(hn:∀i,i<x.ps.length→Wf (elF x.ps i).1):
  Calls Tryz.prog 39 #[.agg #[.int .i64 x.room,.slice x.a x.ps.length x.c]] w fun e w'=>e= .returned (.map (some (w.heap.size+1)))∧Tf w' (w.heap.size+1) x.ps.length (tabOf x.ps)∧Below w.heap.size w w':=by
 have W1:=Wd.made hr 39
 have XA:=zh (fun g e=>(hr.r g e).1)
 have h20:=hr.n
 have HN:=zh hn
 clear hr hn
 have S1:(w.alloc (.cells #[.int .i64 x.room,.slice x.a x.ps.length x.c] 39)).heap.size=w.heap.size+1:=by simp
 have T0:=tf_made (w.alloc (.cells #[.int .i64 x.room,.slice x.a x.ps.length x.c] 39))
 rw[S1] at T0
 have G0:=zh (And.intro (W1.step (one_more _ (.map #[] 0))) T0)
 have hmm:= @run_makeMap Tryz.prog
 clear W1 S1 T0
 go_enter Tryz.func39,Tryz.ntmps39
 go_wp2
 go_loopw [10] (fun i wr=>∃(k:Nat),k≤x.ps.length∧i= .int .i64 k∧Hid (Wd w wr x)∧Hid (Tf wr (w.heap.size+1) k (tabN x.ps k))) (fun i _=>x.ps.length-(intOf i).toNat)
 case atStart=>exact⟨0,by omega,rfl,zh (zu G0).1,zh (zu G0).2⟩
 case round=>
  clear G0
  obtain⟨k,hk,rfl,HW,HT⟩:=hrel
  by_cases t:k<x.ps.length
  ·have kt:(k:Int)<x.ps.length:=by omega
   obtain⟨g,ea,lg,e0,e1,e2⟩:=cells_of (zu HW).r t
   have lt:=(zu HW).lt
   have IX:=SCom14.ixF x.c ea t
   have WF:=(zu HN) k t
   have PR:elF x.ps k=((elF x.ps k).1,(elF x.ps k).2.1,(elF x.ps k).2.2):=rfl
   have TE:=zh (show tabN x.ps (k+1)=upd (tabN x.ps k) (elF x.ps k).1 (some ((elF x.ps k).1,(elF x.ps k).2.1,(elF x.ps k).2.2)) from rfl)
   generalize tabN x.ps k=f at *
   clear PR
   generalize (elF x.ps k).1=z0 at *
   generalize (elF x.ps k).2.1=z1 at *
   generalize (elF x.ps k).2.2=z2 at *
   clear ea
   have OB:=one_more wr (.cells #[.int .i64 z0,.string z1,.string z2] 66)
   have HW2:=zh ((zu HW).step OB)
   have HT2:=zh ((zu HT).below OB)
   clear OB HW HT
   go_wp2_with (first|(at_mapUpdate;refine wp_put _ rfl _ _ _ rfl (w.heap.size+1) k _ rfl (zu HT2) (by omega) z0 (z0,z1,z2) rfl rfl WF ?_;intro w1 t1 g1)|go_in)
   go_roundw
   case rel=>exact⟨k+1,by omega,by go_num,zh (wd_grown (zu HW2) g1 (by omega) (fun g e=>by have:=(zu XA) g e;omega)),zh (by rw[zu TE];exact t1)⟩
   case measure=>simp[intOf];omega
  ·have e:k=x.ps.length:=by omega
   have kt:¬(k:Int)<x.ps.length:=by omega
   subst e
   go_wp2
   go_ret
   exact⟨rfl,zu HT,(zu HW).b⟩
end ITb14
namespace PTab14
open Fil14 DiskH14 SDk14 SOk14 SRd14 SLess14 SPut14 Pure14 TabF14
structure Tl(f:Int→Option TF)(ps:List TF):Prop where
 asc:Asc ps
 nam:Named ps
 iff:∀k q,f k=some q↔q∈ps∧q.1=k
theorem tabN_hit{ps:List TF}(h:Asc ps):∀k,k≤ps.length→∀i,i<k→tabN ps k (elF ps i).1=some (elF ps i)
 |0=>fun _ i hi=>absurd hi (by omega)
 |k+1=>fun hk i hi=>by
  unfold tabN upd
  by_cases e:i=k
  ·subst e
   rw[if_pos rfl]
  ·have:=asc_lt h (i:=i) (j:=k) (by omega) (by omega)
   rw[if_neg (by omega)]
   exact tabN_hit h k (by omega) i (by omega)
theorem tabN_in{ps:List TF}:∀k,k≤ps.length→∀j q,tabN ps k j=some q→q∈ps∧q.1=j
 |0=>fun _ j q e=>by simp[tabN] at e
 |k+1=>fun hk j q e=>by
  unfold tabN upd at e
  by_cases c:j=(elF ps k).1
  ·rw[if_pos c] at e
   have e':elF ps k=q:=by simpa using e
   rw[←e']
   exact⟨elF_mem (by omega),c.symm⟩
  ·rw[if_neg c] at e
   exact tabN_in k (by omega) j q e
theorem tl_tab{ps:List TF}(h:Asc ps)(hn:Named ps):Tl (tabOf ps) ps:=by
 refine⟨h,hn,fun k q=>⟨fun e=>tabN_in _ (Nat.le_refl _) k q e,fun⟨m,e⟩=>?_⟩⟩
 obtain⟨i,hi,rfl⟩:=mem_elF m
 rw[←e]
 exact tabN_hit h _ (Nat.le_refl _) i hi
theorem tl_no{f:Int→Option TF}{ps:List TF}(h:Tl f ps){nm:Int}(e:findF ps nm<0):f nm=none:=by
 cases q:f nm with
 |none=>rfl
 |some p=>
  have:=(h.iff nm p).1 q
  exact absurd this.2 (find_neg e p this.1)
theorem tl_yes{f:Int→Option TF}{ps:List TF}(h:Tl f ps){nm:Int}{k:Nat}(hk:k<ps.length)(e:(elF ps k).1=nm):f nm=some (elF ps k):=(h.iff _ _).2 ⟨elF_mem hk,e⟩
theorem tl_ok{room:Int}{ps:List TF}(h:OkD room ps):Tl (tabOf ps) ps:=tl_tab (asc_of h).1 (asc_of h).2
theorem wf_names{room:Int}{ps:List TF}(h:OkD room ps):∀i,i<ps.length→Wf (elF ps i).1:=fun i hi=>wf_ok (h.2.2.2 i hi).1
theorem el_size{ps:List TF}(hz:sumZ ps≤1048576){k:Nat}(hk:k<ps.length):(elF ps k).2.1.size+(elF ps k).2.2.size≤1048576:=by
 have:=sumZ_next hk
 have:=sumZ_le ps (k+1)
 omega
end PTab14
end Go.Proofs.YtagmnociflkhcaaGreatDoor
