/- Texts of one proof. -/
import Derived.Test.YtlbgfdpcgpijhaaGreatQB30
import Derived.Maps.OwnSet
open Go.ChangeShapes Go.WideShapes Go.ChangeAt Go.RowKit
set_option linter.unusedVariables false
set_option linter.unusedSimpArgs false
set_option maxRecDepth 100000
set_option maxHeartbeats 32000000
namespace Go.Proofs.YtlbgfdpcgpijhaaGreat
namespace TabF14
open Fil14 OpensF14 DiskH14 DkH14 SDk14 SOk14
open Go.Maps (Keyed)
theorem law:Keyed Tryz.prog 3:=Maps.int_keyed Tryz.underlying3
def Wf(n:Int):Prop:=(Lit.int .i64 n).wf=true
theorem wf_ok{n:Int}(h:okN n=true):Wf n:=by
 unfold okN at h
 exact WalkArith.wf_i64 (by simp at h;omega)
theorem wf_low{n:Int}(h:0≤n∧n≤21):Wf n:=wf_ok (by unfold okN;simpa using h)
abbrev z0:TF:=(0,ByteArray.empty,ByteArray.empty)
abbrev fV(p:TF):Value:= .agg #[.int .i64 p.1,.string p.2.1,.string p.2.2]
theorem fV_inj{p q:TF}(h:fV p=fV q):p=q:=by
 obtain⟨a,b,c⟩:=p
 obtain⟨d,e,f⟩:=q
 simp[fV] at h
 simp[h]
theorem zero(w:World):(zeroValue 64).run Tryz.prog w= .ok (fV z0) w:=by kernel_rfl
open Classical in
noncomputable def rF (v:Value):Option (DataW TF×List MemPlace):=if h:∃p,v=fV p then some (.held h.choose,[]) else none
theorem rF_mk(p:TF):rF (fV p)=some (.held p,[]):=by
 unfold rF
 have h:∃q,fV p=fV q:=⟨p,rfl⟩
 rw[dif_pos h,←fV_inj h.choose_spec]
theorem rF_inv{v:Value}{d:DataW TF}{ps:List MemPlace}(h:rF v=some (d,ps)):∃p,v=fV p∧d= .held p:=by
 unfold rF at h
 split at h
 ·rename_i q
  have e:DataW.held q.choose=d:=by simpa using congrArg (fun o=>o.map (·.1)) h
  exact⟨q.choose,q.choose_spec,e.symm⟩
 ·cases h
theorem key_of{n:Int}(h:Wf n):keyOf Tryz.prog 3 (.int .i64 n)=some (.int .i64 n):=Maps.keyOf_int_mk Tryz.underlying3 h
def upd(f:Int→Option TF)(k:Int)(p:Option TF):Int→Option TF:=fun j=>if j=k then p else f j
def Tf(w:World)(B n:Nat)(f:Int→Option TF):Prop:=∃D:DataW TF,w.ownsMap Tryz.prog 3 rF B n D∧∀k,Wf k→D.atKey (.int .i64 k) (.held z0)= .held ((f k).getD z0)∧Maps.has D (.int .i64 k)=(f k).isSome
theorem tf_made(w:World):Tf (w.alloc (.map #[] 0)) w.heap.size 0 (fun _=>none):=
 ⟨.map [],World.ownsMap_made _ _ _ _,fun k h=>⟨rfl,rfl⟩⟩
theorem Tf.lt{w:World}{B n:Nat}{f:Int→Option TF}(h:Tf w B n f):B<w.heap.size:=by
 obtain⟨D,h1,_⟩:=h
 exact h1.lt
theorem Tf.kept{w w':World}{B n:Nat}{f:Int→Option TF}{row:Option Nat}(h:Tf w B n f)(hg:w.grownBy w' row)(hne:some B≠row):Tf w' B n f:=by
 obtain⟨D,h1,h2⟩:=h
 exact⟨D,h1.kept hg hne,h2⟩
theorem below_grown{w w':World}(h:Below w.heap.size w w'):w.grownBy w' none:=⟨h.os,h.tape,h.output,h.size,fun k hk _=>h.block k hk⟩
theorem Tf.below{w w':World}{B n:Nat}{f:Int→Option TF}(h:Tf w B n f)(k:Below w.heap.size w w'):Tf w' B n f:=h.kept (below_grown k) (by simp)
theorem isMap_of{w:World}{B n:Nat}{D:DataW TF}(h:w.ownsMap Tryz.prog 3 rF B n D):Maps.IsMap D:=by
 obtain⟨es,clock,_,_,_,rfl⟩:=h
 exact⟨_,rfl⟩
theorem key_ne{j k:Int}(h:j≠k):Lit.int .i64 j≠Lit.int .i64 k:=fun e=>h (by simpa using e)
theorem wp_have(w:World){ops:Array Oper}{rest:List Oper}{o:Oper}{s:Act}{Q:Exit→Act→World→Prop}
  (hg:o.guard=none)(m x:Operand)(hop:o.op=Op.lookup 259 m x true)(B n:Nat)(f:Int→Option TF)(hm:s.eval m= .map (some B))(hown:Tf w B n f)(k:Int)(hx:s.eval x= .int .i64 k)(hw:Wf k)
  (p:TF)(b:Bool)(hp:(f k).getD z0=p)(hb:(f k).isSome=b)
  (hK:wpList Tryz.prog ops Q rest (s.put o.dst (.tuple #[.agg #[.int .i64 p.1,.string p.2.1,.string p.2.2],.bool b])) w):wpList Tryz.prog ops Q (o::rest) s w:=by
 obtain⟨D,h1,h2⟩:=hown
 subst hp hb
 refine wpList_lookup_own_ok w hg m x 259 hop 3 64 law Tryz.underlying259 rF (zero w) (.held z0) [] (rF_mk z0) B n D hm h1 _ (.int .i64 k) hx (key_of hw) ?_
 intro v ps hv
 obtain⟨p,rfl,e⟩:=rF_inv hv
 rw[(h2 k hw).1] at e
 have e':(f k).getD z0=p:=by simpa using e
 rw[(h2 k hw).2,←e']
 exact hK
theorem wp_look(w:World){ops:Array Oper}{rest:List Oper}{o:Oper}{s:Act}{Q:Exit→Act→World→Prop}
  (hg:o.guard=none)(m x:Operand)(hop:o.op=Op.lookup 259 m x false)(B n:Nat)(f:Int→Option TF)(hm:s.eval m= .map (some B))(hown:Tf w B n f)(k:Int)(hx:s.eval x= .int .i64 k)(hw:Wf k)
  (p:TF)(hp:(f k).getD z0=p)
  (hK:wpList Tryz.prog ops Q rest (s.put o.dst (.agg #[.int .i64 p.1,.string p.2.1,.string p.2.2])) w):wpList Tryz.prog ops Q (o::rest) s w:=by
 obtain⟨D,h1,h2⟩:=hown
 subst hp
 refine wpList_plain hg fun K' hK'=>?_
 obtain⟨v,ps,hrun,hv⟩:=h1.lookup law Tryz.underlying259 (zero w) (rF_mk z0) (key_of hw)
 obtain⟨p,rfl,e⟩:=rF_inv hv
 rw[(h2 k hw).1] at e
 have e':(f k).getD z0=p:=by simpa using e
 rw[←e'] at hrun
 unfold Oper.wp
 simp[execOp,hop,hm,hx,hrun,Result.andThen]
 exact hK' _ _ hK
theorem wp_put(w:World){ops:Array Oper}{rest:List Oper}{o:Oper}{s:Act}{Q:Exit→Act→World→Prop}
  (hg:o.guard=none)(m x y:Operand)(hop:o.op=Op.mapUpdate 259 m x y)(B n:Nat)(f:Int→Option TF)(hm:s.eval m= .map (some B))(hown:Tf w B n f)(hn:n≤1048576)(k:Int)(p:TF)(hx:s.eval x= .int .i64 k)(hy:s.eval y= .agg #[.int .i64 p.1,.string p.2.1,.string p.2.2])(hw:Wf k)
  (hK:∀w',Tf w' B (n+1) (upd f k (some p))→w.grownBy w' (some B)→wpList Tryz.prog ops Q rest (s.put o.dst undef) w'):wpList Tryz.prog ops Q (o::rest) s w:=by
 obtain⟨D,h1,h2⟩:=hown
 refine wpList_mapUpdate_own w hg m x y 259 hop 3 64 law Tryz.underlying259 rF B n D hm h1 (by unfold maxLen;omega) _ _ (.int .i64 k) hx hy (key_of hw) (.held p) [] (rF_mk p) ?_
 intro w' h3 h4
 refine hK w' ⟨_,h3,fun j hj=>?_⟩ h4
 unfold upd
 by_cases e:j=k
 ·subst e
  rw[if_pos rfl,Maps.atKey_put_same (isMap_of h1) (law.key (key_of hw)),Maps.has_put_same (isMap_of h1) (law.key (key_of hw))]
  exact⟨rfl,rfl⟩
 ·rw[if_neg e,Maps.atKey_put_other (key_ne e),Maps.has_put_other (key_ne e)]
  exact h2 j hj
theorem wp_del(w:World){ops:Array Oper}{rest:List Oper}{o:Oper}{s:Act}{Q:Exit→Act→World→Prop}
  (hg:o.guard=none)(m x:Operand)(hop:o.op=Op.call {callee:=Callee.builtin Builtin.delete,args:= #[m,x],argTypes:= #[259,3]})(B n:Nat)(f:Int→Option TF)(hm:s.eval m= .map (some B))(hown:Tf w B n f)(k:Int)(hx:s.eval x= .int .i64 k)(hw:Wf k)
  (hK:∀w',Tf w' B n (upd f k none)→w.grownBy w' (some B)→wpList Tryz.prog ops Q rest (s.put o.dst (.tuple #[])) w'):wpList Tryz.prog ops Q (o::rest) s w:=by
 obtain⟨D,h1,h2⟩:=hown
 refine wpList_delete_own w hg m x 259 3 hop 64 law Tryz.underlying259 rF B n D hm h1 _ (.int .i64 k) hx (key_of hw) ?_
 intro w' h3 h4
 refine hK w' ⟨_,h3,fun j hj=>?_⟩ h4.grown
 unfold upd
 by_cases e:j=k
 ·subst e
  rw[if_pos rfl,Maps.atKey_del_same,Maps.has_del_same]
  exact⟨rfl,rfl⟩
 ·rw[if_neg e,Maps.atKey_del_other (key_ne e),Maps.has_del_other (key_ne e)]
  exact h2 j hj
def tabN(ps:List TF):Nat→Int→Option TF
 |0=>fun _=>none
 |k+1=>upd (tabN ps k) (elF ps k).1 (some (elF ps k))
def tabOf(ps:List TF):Int→Option TF:=tabN ps ps.length
def rowN(f:Int→Option TF):Nat→List TF
 |0=>[]
 |k+1=>rowN f k++(f k).toList
def rowF(f:Int→Option TF):List TF:=rowN f 22
end TabF14
namespace ITb14
open Fil14 OpensF14 DiskH14 DkH14 SDk14 SOk14 SLess14 TabF14
theorem wd_grown{w wr wz:World}{x:Dx}{B:Nat}(h:Wd w wr x)(k:wr.grownBy wz (some B))(hB:w.heap.size<B)(hx:∀g,x.a=some ⟨g,0,none⟩→g≠B):Wd w wz x:=by
 refine⟨(App14.kcell k 0 h.lt (by omega)).trans h.c0,(App14.kcell k 1 h.lt (by omega)).trans h.c1,Nat.lt_of_lt_of_le h.lt k.size,grow_low h.b k ⟨by omega,Nat.le_of_lt h.lt⟩,⟨h.r.e,fun g e=>?_,h.r.n⟩⟩
 obtain⟨l,a⟩:=h.r.r g e
 have c:=fun o=>App14.kcell k o l (hx g e)
 refine⟨Nat.lt_of_lt_of_le l k.size,fun i hi=>?_⟩
 obtain⟨a0,a1,a2⟩:=a i hi
 exact⟨(c _).trans a0,(c _).trans a1,(c _).trans a2⟩
theorem iTable(w:World)(x:Dx)(hr:RdD w x)(hn:∀i,i<x.ps.length→Wf (elF x.ps i).1):
  Calls Tryz.prog 260 #[.agg #[.int .i64 x.room,.slice x.a x.ps.length x.c]] w fun e w'=>e= .returned (.map (some (w.heap.size+1)))∧Tf w' (w.heap.size+1) x.ps.length (tabOf x.ps)∧Below w.heap.size w w':=by
 have W1:=Wd.made hr 38
 have XA:=zh (fun g e=>(hr.r g e).1)
 have h20:=hr.n
 have HN:=zh hn
 clear hr hn
 have S1:(w.alloc (.cells #[.int .i64 x.room,.slice x.a x.ps.length x.c] 38)).heap.size=w.heap.size+1:=by simp
 have T0:=tf_made (w.alloc (.cells #[.int .i64 x.room,.slice x.a x.ps.length x.c] 38))
 rw[S1] at T0
 have G0:=zh (And.intro (W1.step (one_more _ (.map #[] 0))) T0)
 have hmm:= @run_makeMap Tryz.prog
 clear W1 S1 T0
 go_enter Tryz.func260,Tryz.ntmps260
 go_wp2
 go_loopw [10] (fun i wr=>∃(k:Nat),k≤x.ps.length∧i= .int .i64 k∧Hid (Wd w wr x)∧Hid (Tf wr (w.heap.size+1) k (tabN x.ps k))) (fun i _=>x.ps.length-(intOf i).toNat)
 case atStart=>exact⟨0,by omega,rfl,zh (zu G0).1,zh (zu G0).2⟩
 case round=>
  clear G0
  obtain⟨k,hk,rfl,HW,HT⟩:=hrel
  by_cases t:k<x.ps.length
  ·have kt:(k:Int)<x.ps.length:=by omega
   obtain⟨g,ea,lg,e0,e1,e2⟩:=cells_of (zu HW).r t
   have lt:=(zu HW).lt
   have IX:=SCom14.ixF x.c ea t
   have WF:=(zu HN) k t
   have PR:elF x.ps k=((elF x.ps k).1,(elF x.ps k).2.1,(elF x.ps k).2.2):=rfl
   have TE:=zh (show tabN x.ps (k+1)=upd (tabN x.ps k) (elF x.ps k).1 (some ((elF x.ps k).1,(elF x.ps k).2.1,(elF x.ps k).2.2)) from rfl)
   generalize tabN x.ps k=f at *
   clear PR
   generalize (elF x.ps k).1=z0 at *
   generalize (elF x.ps k).2.1=z1 at *
   generalize (elF x.ps k).2.2=z2 at *
   clear ea
   have OB:=one_more wr (.cells #[.int .i64 z0,.string z1,.string z2] 64)
   have HW2:=zh ((zu HW).step OB)
   have HT2:=zh ((zu HT).below OB)
   clear OB HW HT
   go_wp2_with (first|(at_mapUpdate;refine wp_put _ rfl _ _ _ rfl (w.heap.size+1) k _ rfl (zu HT2) (by omega) z0 (z0,z1,z2) rfl rfl WF ?_;intro w1 t1 g1)|go_in)
   go_roundw
   case rel=>exact⟨k+1,by omega,by go_num,zh (wd_grown (zu HW2) g1 (by omega) (fun g e=>by have:=(zu XA) g e;omega)),zh (by rw[zu TE];exact t1)⟩
   case measure=>simp[intOf];omega
  ·have e:k=x.ps.length:=by omega
   have kt:¬(k:Int)<x.ps.length:=by omega
   subst e
   go_wp2
   go_ret
   exact⟨rfl,zu HT,(zu HW).b⟩
end ITb14
namespace IDk14
open Fil14 OpensF14 DiskH14 DkH14 SDk14 SOk14 SRd14 App14 SLess14 SCopy14 SRef14 SCom14 SPut14 TabF14
open DkH14 (row_step)
theorem pt_step{B O:Nat}{W wr wz:World}{room:Int}{L:List TF}{a:Option Addr}{m c:Nat}(h:Pt B O W wr room L a m c)(k:Below wr.heap.size wr wz):Pt B O W wz room L a m c:=
 ⟨⟨k.os.trans h.gr.os,k.tape.trans h.gr.tape,k.output.trans h.gr.output,Nat.le_trans h.gr.size k.size,fun i hi hr=>(k.block i (Nat.lt_of_lt_of_le hi h.gr.size)).trans (h.gr.block i hi hr)⟩,h.bx.below k h.bx.lt.2,row_step h.ow k⟩
theorem iDisk(w:World)(B n:Nat)(f:Int→Option TF)(room:Int)(hT:Tf w B n f):
  Calls Tryz.prog 261 #[.map (some B),.int .i64 room] w fun e w'=>∃y:Dx,y.room=room∧y.ps=rowF f∧e= .returned (.agg #[.int .i64 y.room,.slice y.a y.ps.length y.c])∧OwD w' w.heap.size y∧Below w.heap.size w w':=by
 have F:∀W1,W1=w.alloc (.cells #[.int .i64 0,.slice none 0 0] 38)→∀W2,W2=W1.alloc (.cells #[.int .i64 room,.slice none 0 0] 38)→
   Bc W2 w.heap.size w.heap.size (.int .i64 0) (.slice none 0 0)∧Bc W2 w.heap.size (w.heap.size+1) (.int .i64 room) (.slice none 0 0)∧Tf W2 B n f∧Below w.heap.size w W2∧W2.heap.size=w.heap.size+2:=by
  intro W1 h1 W2 h2
  have s1:W1.heap.size=w.heap.size+1:=by rw[h1];simp
  have s2:W2.heap.size=w.heap.size+2:=by rw[h2];simp[s1]
  have b1:Below w.heap.size w W1:=by rw[h1];exact one_more _ _
  have b2:Below W1.heap.size W1 W2:=by rw[h2];exact one_more _ _
  have R1:Bc W1 w.heap.size w.heap.size (.int .i64 0) (.slice none 0 0):=by rw[h1];exact Bc.made _ _ (Nat.le_refl _) rfl
  have O1:Bc W2 w.heap.size (w.heap.size+1) (.int .i64 room) (.slice none 0 0):=by rw[h2];exact Bc.made _ _ (by omega) s1.symm
  exact⟨R1.below b2 (by omega),O1,(hT.below b1).below b2,b1.trans (b2.mono b1.size),s2⟩
 have G0:=zh (F _ rfl _ rfl)
 have hB:=hT.lt
 clear F hT
 go_enter Tryz.func261,Tryz.ntmps261
 go_wp2
 generalize (w.alloc (.cells #[.int .i64 0,.slice none 0 0] 38)).alloc (.cells #[.int .i64 room,.slice none 0 0] 38)=W at *
 obtain⟨RB,OB,TW,BW,s3⟩:=zu G0
 have HRB:=zh RB
 have HTW:=zh TW
 have HBW:=zh BW
 have hO:w.heap.size+1<W.heap.size:=by omega
 have hb:W.heap.size=w.heap.size+2:=s3
 clear G0 RB TW BW
 go_loopw [11] (fun i wr=>∃(k m c:Nat) (a:Option Addr),i= .int .i64 k∧k≤22∧m≤k∧Hid (Pt w.heap.size (w.heap.size+1) W wr room (rowN f k) a m c)) (fun i _=>22-(intOf i).toNat)
 case atStart=>exact⟨0,0,0,none,rfl,by omega,by omega,zh ⟨World.grownBy.refl _ _,OB,⟨rfl,.inl ⟨rfl,rfl⟩⟩⟩⟩
 case round=>
  clear OB
  obtain⟨k,m,c,a,rfl,hk,hm,HPt⟩:=hrel
  have bo:=(zu HPt).bx.c1
  have lo:=(zu HPt).bx.lt.2
  have vs:=(zu HPt).gr.size
  by_cases t:k<22
  ·have kt:(k:Int)<22:=by omega
   have WF:Wf (k:Int):=wf_low ⟨by omega,by omega⟩
   have HT:=zh ((zu HTW).kept (zu HPt).gr (by simp;omega))
   have NX:=zh (show rowN f (k+1)=rowN f k++(f k).toList from rfl)
   cases hf:f k with
   |none=>
    have HP:(f k).getD z0=(0,ByteArray.empty,ByteArray.empty):=by rw[hf];rfl
    have HI:(f k).isSome=false:=by rw[hf];rfl
    rw[hf] at NX
    have P1:=zh (pt_step (zu HPt) (one_more wr (.cells #[.int .i64 0,.string ByteArray.empty,.string ByteArray.empty] 64)))
    clear hf HPt bo
    go_wp2_with (first|(at_lookup;refine wp_have _ rfl _ _ rfl B n f rfl (zu HT) k rfl WF _ false HP HI ?_)|go_in)
    go_roundw
    case rel=>exact⟨k+1,m,c,a,by go_num,by omega,by omega,by rw[zu NX,Option.toList_none,List.append_nil];exact P1⟩
    case measure=>simp[intOf];omega
   |some p=>
    obtain⟨p0,p1,p2⟩:=p
    have HP:(f k).getD z0=(p0,p1,p2):=by rw[hf];rfl
    have HI:(f k).isSome=true:=by rw[hf];rfl
    rw[hf] at NX
    clear hf
    have P1:=zh (pt_step (zu HPt) (one_more wr (.cells #[.int .i64 p0,.string p1,.string p2] 64)))
    have SA:(wr.alloc (.cells #[.int .i64 p0,.string p1,.string p2] 64)).heap.size=wr.heap.size+1:=by simp
    have q0:(wr.alloc (.cells #[.int .i64 p0,.string p1,.string p2] 64)).cell? ⟨wr.heap.size,0,none⟩=some (.int .i64 p0):=by simp[go_sem]
    have q1:(wr.alloc (.cells #[.int .i64 p0,.string p1,.string p2] 64)).cell? ⟨wr.heap.size,1,none⟩=some (.string p1):=by simp[go_sem]
    have q2:(wr.alloc (.cells #[.int .i64 p0,.string p1,.string p2] 64)).cell? ⟨wr.heap.size,2,none⟩=some (.string p2):=by simp[go_sem]
    have LC:=zh (show ∀j v,[Value.int .i64 p0,.string p1,.string p2][j]?=some v→((wr.alloc (.cells #[.int .i64 p0,.string p1,.string p2] 64)).alloc (.cells #[.int .i64 p0,.string p1,.string p2] 64)).cell? ⟨wr.heap.size+1,j,none⟩=some v by
     have h:=litm (wr.alloc (.cells #[.int .i64 p0,.string p1,.string p2] 64)) [.int .i64 p0,.string p1,.string p2] 64 _ rfl
     rw[SA] at h
     exact h)
    clear SA
    have bo1:=(zu P1).bx.c1
    have vs1:=zh (zu P1).gr.size
    have lo1:=(zu P1).bx.lt.2
    clear HPt bo
    go_wp2_with (first|(at_lookup;refine wp_have _ rfl _ _ rfl B n f rfl (zu HT) k rfl WF _ true HP HI ?_)|(at_builtin;refine wp_app _ rfl _ _ rfl W.heap.size (.slice a m c) m (flatF (rowN f k)) (wr.heap.size+1) [.int .i64 p0,.string p1,.string p2] rfl rfl (row_step (zu P1).ow (one_more _ (.cells #[.int .i64 p0,.string p1,.string p2] 64))) rfl (zu LC) (by simp[Value.oneCell']) (by omega) (Nat.le_trans (zu vs1) (by simp)) ?_;intro g8 c8 u8 o8 gr8;have PA:=(zu P1).app (p:=(p0,p1,p2)) hO (one_more _ (.cells #[.int .i64 p0,.string p1,.string p2] 64)) gr8 o8;have bx8:=PA.1;have b80:=bx8.c1;have b81:=bx8.free 1;have P8:=zh PA.2;clear o8 gr8 PA bx8 bo1)|go_in)
    go_roundw
    case rel=>exact⟨k+1,m+1,c8,some ⟨g8,0,none⟩,by go_num,by omega,by omega,by rw[zu NX];exact P8⟩
    case measure=>simp[intOf];omega
  ·have e:k=22:=by omega
   subst e
   have B0:=(zu HPt).bx.c0
   have Rk:=zh ((zu HRB).kept (zu HPt).gr (by simp))
   have e0:=(zu Rk).free 0
   have e1:=(zu Rk).free 1
   have r0:=(zu Rk).c0
   have r1:=(zu Rk).c1
   have LM:=zh (show(rowN f 22).length=m by
    have:=(zu HPt).ow.1
    rw[flatF_len] at this
    omega)
   have t0:=(zu Rk).set0 (.int .i64 room)
   have t1:=bc_set1 t0.1 (.slice a m c)
   have ST:=zh (grow_grow t0.2 t1.2)
   have BB:=zh (grow_low (zu HBW) (zu HPt).gr (by omega))
   clear t0 t1
   go_wp2
   refine bodyPost_ret (v:= .agg #[.int .i64 room,.slice a m c]) (by simp[results,Tryz.results261,go_sem,r0,r1]) rfl ⟨⟨room,a,c,rowN f 22⟩,rfl,rfl,by simp[zu LM],?_,?_⟩
   ·unfold OwD
    simp only[zu LM]
    exact row_base (row_kept (zu HPt).ow (zu ST) (by omega)) (by omega)
   ·exact grow_low (zu BB) (zu ST) (by omega)
end IDk14
namespace PTab14
open Fil14 DiskH14 SDk14 SOk14 SRd14 SLess14 SPut14 Pure14 TabF14
structure Tl(f:Int→Option TF)(ps:List TF):Prop where
 asc:Asc ps
 nam:Named ps
 iff:∀k q,f k=some q↔q∈ps∧q.1=k
theorem tabN_hit{ps:List TF}(h:Asc ps):∀k,k≤ps.length→∀i,i<k→tabN ps k (elF ps i).1=some (elF ps i)
 |0=>fun _ i hi=>absurd hi (by omega)
 |k+1=>fun hk i hi=>by
  unfold tabN upd
  by_cases e:i=k
  ·subst e
   rw[if_pos rfl]
  ·have:=asc_lt h (i:=i) (j:=k) (by omega) (by omega)
   rw[if_neg (by omega)]
   exact tabN_hit h k (by omega) i (by omega)
theorem tabN_in{ps:List TF}:∀k,k≤ps.length→∀j q,tabN ps k j=some q→q∈ps∧q.1=j
 |0=>fun _ j q e=>by simp[tabN] at e
 |k+1=>fun hk j q e=>by
  unfold tabN upd at e
  by_cases c:j=(elF ps k).1
  ·rw[if_pos c] at e
   have e':elF ps k=q:=by simpa using e
   rw[←e']
   exact⟨elF_mem (by omega),c.symm⟩
  ·rw[if_neg c] at e
   exact tabN_in k (by omega) j q e
theorem tl_tab{ps:List TF}(h:Asc ps)(hn:Named ps):Tl (tabOf ps) ps:=by
 refine⟨h,hn,fun k q=>⟨fun e=>tabN_in _ (Nat.le_refl _) k q e,fun⟨m,e⟩=>?_⟩⟩
 obtain⟨i,hi,rfl⟩:=mem_elF m
 rw[←e]
 exact tabN_hit h _ (Nat.le_refl _) i hi
theorem tl_put{f:Int→Option TF}{ps:List TF}(h:Tl f ps)(p:TF)(hp:0≤p.1∧p.1≤21):Tl (upd f p.1 (some p)) (putF ps p):=by
 refine⟨put_asc p h.asc,put_named h.asc h.nam hp,fun k q=>?_⟩
 rw[put_mem h.asc]
 unfold upd
 by_cases c:k=p.1
 ·rw[if_pos c]
  constructor
  ·intro e
   have e':p=q:=by simpa using e
   exact⟨.inl e'.symm,by rw[←e',c]⟩
  ·rintro⟨e|⟨_,e⟩,e2⟩
   ·rw[e]
   ·exact absurd (e2.trans c) e
 ·rw[if_neg c,h.iff]
  constructor
  ·rintro⟨a,b⟩
   exact⟨.inr ⟨a,by rw[b];exact c⟩,b⟩
  ·rintro⟨e|⟨a,_⟩,b⟩
   ·exact absurd (by rw[←b,e]) c
   ·exact⟨a,b⟩
theorem tl_less{f:Int→Option TF}{ps:List TF}(h:Tl f ps){k:Nat}(hk:k<ps.length):Tl (upd f (elF ps k).1 none) (lessN ps k ps.length):=by
 refine⟨less_asc h.asc hk,fun p hp=>h.nam p ((less_mem h.asc hk).1 hp).1,fun j q=>?_⟩
 rw[less_mem h.asc hk]
 unfold upd
 by_cases c:j=(elF ps k).1
 ·rw[if_pos c]
  constructor
  ·intro e
   cases e
  ·rintro⟨⟨_,a⟩,b⟩
   exact absurd (b.trans c) a
 ·rw[if_neg c,h.iff]
  constructor
  ·rintro⟨a,b⟩
   exact⟨⟨a,by rw[b];exact c⟩,b⟩
  ·rintro⟨⟨a,_⟩,b⟩
   exact⟨a,b⟩
theorem row_mem{f:Int→Option TF}(p:TF):∀n,p∈rowN f n↔∃k:Nat,k<n∧f k=some p
 |0=>by simp[rowN]
 |n+1=>by
  rw[rowN,List.mem_append,row_mem p n]
  constructor
  ·rintro(⟨k,a,b⟩|h)
   ·exact⟨k,by omega,b⟩
   ·exact⟨n,by omega,by simpa using h⟩
  ·rintro⟨k,a,b⟩
   by_cases e:k=n
   ·subst e
    exact .inr (by simpa using b)
   ·exact .inl ⟨k,by omega,b⟩
theorem row_asc{f:Int→Option TF}(h:∀k q,f k=some q→q.1=k):∀n,Asc (rowN f n)
 |0=>by simp[rowN,Asc]
 |n+1=>by
  unfold Asc rowN
  rw[List.pairwise_append]
  refine⟨row_asc h n,?_,fun p hp q hq=>?_⟩
  ·cases f n<;>simp
  ·obtain⟨k,a,b⟩:=(row_mem p n).1 hp
   have e1:=h _ _ b
   have e2:=h n q (by simpa using hq)
   omega
theorem asc_ext:∀{l r:List TF},Asc l→Asc r→(∀p,p∈l↔p∈r)→l=r
 |[],[]=>fun _ _ _=>rfl
 |[],b::r=>fun _ _ h=>absurd ((h b).2 (by simp)) (by simp)
 |a::l,[]=>fun _ _ h=>absurd ((h a).1 (by simp)) (by simp)
 |a::l,b::r=>fun ha hb h=>by
  unfold Asc at ha hb
  rw[List.pairwise_cons] at ha hb
  have e:a=b:=by
   have h1:=(h a).1 (by simp)
   have h2:=(h b).2 (by simp)
   simp only[List.mem_cons] at h1 h2
   rcases h1 with h1|h1
   ·exact h1
   ·rcases h2 with h2|h2
    ·exact h2.symm
    ·have:=ha.1 b h2
     have:=hb.1 a h1
     omega
  subst e
  rw[asc_ext ha.2 hb.2 (fun p=>?_)]
  have:=h p
  simp only[List.mem_cons] at this
  constructor
  ·intro m
   rcases this.1 (.inr m) with e|e
   ·subst e
    have:=ha.1 p m
    omega
   ·exact e
  ·intro m
   rcases this.2 (.inr m) with e|e
   ·subst e
    have:=hb.1 p m
    omega
   ·exact e
theorem tl_row{f:Int→Option TF}{ps:List TF}(h:Tl f ps):rowF f=ps:=by
 refine asc_ext (row_asc (fun k q e=>((h.iff k q).1 e).2) 22) h.asc (fun p=>?_)
 unfold rowF at *
 rw[row_mem]
 constructor
 ·rintro⟨k,_,e⟩
  exact((h.iff k p).1 e).1
 ·intro m
  have n:=h.nam p m
  exact⟨p.1.toNat,by omega,(h.iff _ _).2 ⟨m,by omega⟩⟩
theorem tl_no{f:Int→Option TF}{ps:List TF}(h:Tl f ps){nm:Int}(e:findF ps nm<0):f nm=none:=by
 cases q:f nm with
 |none=>rfl
 |some p=>
  have:=(h.iff nm p).1 q
  exact absurd this.2 (find_neg e p this.1)
theorem tl_yes{f:Int→Option TF}{ps:List TF}(h:Tl f ps){nm:Int}{k:Nat}(hk:k<ps.length)(e:(elF ps k).1=nm):f nm=some (elF ps k):=(h.iff _ _).2 ⟨elF_mem hk,e⟩
theorem tl_ok{room:Int}{ps:List TF}(h:OkD room ps):Tl (tabOf ps) ps:=tl_tab (asc_of h).1 (asc_of h).2
theorem wf_names{room:Int}{ps:List TF}(h:OkD room ps):∀i,i<ps.length→Wf (elF ps i).1:=fun i hi=>wf_ok (h.2.2.2 i hi).1
theorem el_size{ps:List TF}(hz:sumZ ps≤1048576){k:Nat}(hk:k<ps.length):(elF ps k).2.1.size+(elF ps k).2.2.size≤1048576:=by
 have:=sumZ_next hk
 have:=sumZ_le ps (k+1)
 omega
end PTab14
end Go.Proofs.YtlbgfdpcgpijhaaGreat
