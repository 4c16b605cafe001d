/- Lemmas. -/
import Derived.Test.YtppkkmaoaiopaaaGreatQF20
import Derived.Maps.OwnSet
import Derived.Lib.MinMax
open Go.ChangeShapes Go.WideShapes Go.ChangeAt Go.RowKit
set_option linter.unusedVariables false
set_option linter.unusedSimpArgs false
set_option maxRecDepth 100000
set_option maxHeartbeats 32000000
namespace Go.Proofs.YtppkkmaoaiopaaaGreat
namespace TabF14
open Fil14 OpensF14 DiskH14 DkH14 SDk14 SOk14
open Go.Maps (Keyed)
theorem law:Keyed Tryz.prog 3:=Maps.int_keyed Tryz.underlying3
def Wf(n:Int):Prop:=(Lit.int .i64 n).wf=true
theorem wf_ok{n:Int}(h:okN n=true):Wf n:=by
 unfold okN at h
 exact WalkArith.wf_i64 (by simp at h;omega)
theorem wf_low{n:Int}(h:0≤n∧n≤21):Wf n:=wf_ok (by unfold okN;simpa using h)
abbrev z0:TF:=(0,ByteArray.empty,ByteArray.empty)
abbrev fV(p:TF):Value:= .agg #[.int .i64 p.1,.string p.2.1,.string p.2.2]
theorem fV_inj{p q:TF}(h:fV p=fV q):p=q:=by
 obtain⟨a,b,c⟩:=p
 obtain⟨d,e,f⟩:=q
 simp[fV] at h
 simp[h]
theorem zero(w:World):(zeroValue 81).run Tryz.prog w= .ok (fV z0) w:=by kernel_rfl
open Classical in
noncomputable def rF (v:Value):Option (DataW TF×List MemPlace):=if h:∃p,v=fV p then some (.held h.choose,[]) else none
theorem rF_mk(p:TF):rF (fV p)=some (.held p,[]):=by
 unfold rF
 have h:∃q,fV p=fV q:=⟨p,rfl⟩
 rw[dif_pos h,←fV_inj h.choose_spec]
theorem rF_inv{v:Value}{d:DataW TF}{ps:List MemPlace}(h:rF v=some (d,ps)):∃p,v=fV p∧d= .held p:=by
 unfold rF at h
 split at h
 ·rename_i q
  have e:DataW.held q.choose=d:=by simpa using congrArg (fun o=>o.map (·.1)) h
  exact⟨q.choose,q.choose_spec,e.symm⟩
 ·cases h
theorem key_of{n:Int}(h:Wf n):keyOf Tryz.prog 3 (.int .i64 n)=some (.int .i64 n):=Maps.keyOf_int_mk Tryz.underlying3 h
def upd(f:Int→Option TF)(k:Int)(p:Option TF):Int→Option TF:=fun j=>if j=k then p else f j
def Tf(w:World)(B n:Nat)(f:Int→Option TF):Prop:=∃D:DataW TF,w.ownsMap Tryz.prog 3 rF B n D∧∀k,Wf k→D.atKey (.int .i64 k) (.held z0)= .held ((f k).getD z0)∧Maps.has D (.int .i64 k)=(f k).isSome
theorem tf_made(w:World):Tf (w.alloc (.map #[] 0)) w.heap.size 0 (fun _=>none):=
 ⟨.map [],World.ownsMap_made _ _ _ _,fun k h=>⟨rfl,rfl⟩⟩
theorem Tf.lt{w:World}{B n:Nat}{f:Int→Option TF}(h:Tf w B n f):B<w.heap.size:=by
 obtain⟨D,h1,_⟩:=h
 exact h1.lt
theorem Tf.kept{w w':World}{B n:Nat}{f:Int→Option TF}{row:Option Nat}(h:Tf w B n f)(hg:w.grownBy w' row)(hne:some B≠row):Tf w' B n f:=by
 obtain⟨D,h1,h2⟩:=h
 exact⟨D,h1.kept hg hne,h2⟩
theorem below_grown{w w':World}(h:Below w.heap.size w w'):w.grownBy w' none:=⟨h.os,h.tape,h.output,h.size,fun k hk _=>h.block k hk⟩
theorem Tf.below{w w':World}{B n:Nat}{f:Int→Option TF}(h:Tf w B n f)(k:Below w.heap.size w w'):Tf w' B n f:=h.kept (below_grown k) (by simp)
theorem isMap_of{w:World}{B n:Nat}{D:DataW TF}(h:w.ownsMap Tryz.prog 3 rF B n D):Maps.IsMap D:=by
 obtain⟨es,clock,_,_,_,rfl⟩:=h
 exact⟨_,rfl⟩
theorem key_ne{j k:Int}(h:j≠k):Lit.int .i64 j≠Lit.int .i64 k:=fun e=>h (by simpa using e)
theorem wp_have(w:World){ops:Array Oper}{rest:List Oper}{o:Oper}{s:Act}{Q:Exit→Act→World→Prop}
  (hg:o.guard=none)(m x:Operand)(hop:o.op=Op.lookup 225 m x true)(B n:Nat)(f:Int→Option TF)(hm:s.eval m= .map (some B))(hown:Tf w B n f)(k:Int)(hx:s.eval x= .int .i64 k)(hw:Wf k)
  (p:TF)(b:Bool)(hp:(f k).getD z0=p)(hb:(f k).isSome=b)
  (hK:wpList Tryz.prog ops Q rest (s.put o.dst (.tuple #[.agg #[.int .i64 p.1,.string p.2.1,.string p.2.2],.bool b])) w):wpList Tryz.prog ops Q (o::rest) s w:=by
 obtain⟨D,h1,h2⟩:=hown
 subst hp hb
 refine wpList_lookup_own_ok w hg m x 225 hop 3 81 law Tryz.underlying225 rF (zero w) (.held z0) [] (rF_mk z0) B n D hm h1 _ (.int .i64 k) hx (key_of hw) ?_
 intro v ps hv
 obtain⟨p,rfl,e⟩:=rF_inv hv
 rw[(h2 k hw).1] at e
 have e':(f k).getD z0=p:=by simpa using e
 rw[(h2 k hw).2,←e']
 exact hK
theorem wp_look(w:World){ops:Array Oper}{rest:List Oper}{o:Oper}{s:Act}{Q:Exit→Act→World→Prop}
  (hg:o.guard=none)(m x:Operand)(hop:o.op=Op.lookup 225 m x false)(B n:Nat)(f:Int→Option TF)(hm:s.eval m= .map (some B))(hown:Tf w B n f)(k:Int)(hx:s.eval x= .int .i64 k)(hw:Wf k)
  (p:TF)(hp:(f k).getD z0=p)
  (hK:wpList Tryz.prog ops Q rest (s.put o.dst (.agg #[.int .i64 p.1,.string p.2.1,.string p.2.2])) w):wpList Tryz.prog ops Q (o::rest) s w:=by
 obtain⟨D,h1,h2⟩:=hown
 subst hp
 refine wpList_plain hg fun K' hK'=>?_
 obtain⟨v,ps,hrun,hv⟩:=h1.lookup law Tryz.underlying225 (zero w) (rF_mk z0) (key_of hw)
 obtain⟨p,rfl,e⟩:=rF_inv hv
 rw[(h2 k hw).1] at e
 have e':(f k).getD z0=p:=by simpa using e
 rw[←e'] at hrun
 unfold Oper.wp
 simp[execOp,hop,hm,hx,hrun,Result.andThen]
 exact hK' _ _ hK
theorem wp_put(w:World){ops:Array Oper}{rest:List Oper}{o:Oper}{s:Act}{Q:Exit→Act→World→Prop}
  (hg:o.guard=none)(m x y:Operand)(hop:o.op=Op.mapUpdate 225 m x y)(B n:Nat)(f:Int→Option TF)(hm:s.eval m= .map (some B))(hown:Tf w B n f)(hn:n≤1048576)(k:Int)(p:TF)(hx:s.eval x= .int .i64 k)(hy:s.eval y= .agg #[.int .i64 p.1,.string p.2.1,.string p.2.2])(hw:Wf k)
  (hK:∀w',Tf w' B (n+1) (upd f k (some p))→w.grownBy w' (some B)→wpList Tryz.prog ops Q rest (s.put o.dst undef) w'):wpList Tryz.prog ops Q (o::rest) s w:=by
 obtain⟨D,h1,h2⟩:=hown
 refine wpList_mapUpdate_own w hg m x y 225 hop 3 81 law Tryz.underlying225 rF B n D hm h1 (by unfold maxLen;omega) _ _ (.int .i64 k) hx hy (key_of hw) (.held p) [] (rF_mk p) ?_
 intro w' h3 h4
 refine hK w' ⟨_,h3,fun j hj=>?_⟩ h4
 unfold upd
 by_cases e:j=k
 ·subst e
  rw[if_pos rfl,Maps.atKey_put_same (isMap_of h1) (law.key (key_of hw)),Maps.has_put_same (isMap_of h1) (law.key (key_of hw))]
  exact⟨rfl,rfl⟩
 ·rw[if_neg e,Maps.atKey_put_other (key_ne e),Maps.has_put_other (key_ne e)]
  exact h2 j hj
theorem wp_del(w:World){ops:Array Oper}{rest:List Oper}{o:Oper}{s:Act}{Q:Exit→Act→World→Prop}
  (hg:o.guard=none)(m x:Operand)(hop:o.op=Op.call {callee:=Callee.builtin Builtin.delete,args:= #[m,x],argTypes:= #[225,3]})(B n:Nat)(f:Int→Option TF)(hm:s.eval m= .map (some B))(hown:Tf w B n f)(k:Int)(hx:s.eval x= .int .i64 k)(hw:Wf k)
  (hK:∀w',Tf w' B n (upd f k none)→w.grownBy w' (some B)→wpList Tryz.prog ops Q rest (s.put o.dst (.tuple #[])) w'):wpList Tryz.prog ops Q (o::rest) s w:=by
 obtain⟨D,h1,h2⟩:=hown
 refine wpList_delete_own w hg m x 225 3 hop 81 law Tryz.underlying225 rF B n D hm h1 _ (.int .i64 k) hx (key_of hw) ?_
 intro w' h3 h4
 refine hK w' ⟨_,h3,fun j hj=>?_⟩ h4.grown
 unfold upd
 by_cases e:j=k
 ·subst e
  rw[if_pos rfl,Maps.atKey_del_same,Maps.has_del_same]
  exact⟨rfl,rfl⟩
 ·rw[if_neg e,Maps.atKey_del_other (key_ne e),Maps.has_del_other (key_ne e)]
  exact h2 j hj
def tabN(ps:List TF):Nat→Int→Option TF
 |0=>fun _=>none
 |k+1=>upd (tabN ps k) (elF ps k).1 (some (elF ps k))
def tabOf(ps:List TF):Int→Option TF:=tabN ps ps.length
def rowN(f:Int→Option TF):Nat→List TF
 |0=>[]
 |k+1=>rowN f k++(f k).toList
def rowF(f:Int→Option TF):List TF:=rowN f 22
end TabF14
namespace ITb14
open Fil14 OpensF14 DiskH14 DkH14 SDk14 SOk14 SLess14 TabF14
theorem wd_grown{w wr wz:World}{x:Dx}{B:Nat}(h:Wd w wr x)(k:wr.grownBy wz (some B))(hB:w.heap.size<B)(hx:∀g,x.a=some ⟨g,0,none⟩→g≠B):Wd w wz x:=by
 refine⟨(App14.kcell k 0 h.lt (by omega)).trans h.c0,(App14.kcell k 1 h.lt (by omega)).trans h.c1,Nat.lt_of_lt_of_le h.lt k.size,grow_low h.b k ⟨by omega,Nat.le_of_lt h.lt⟩,⟨h.r.e,fun g e=>?_,h.r.n⟩⟩
 obtain⟨l,a⟩:=h.r.r g e
 have c:=fun o=>App14.kcell k o l (hx g e)
 refine⟨Nat.lt_of_lt_of_le l k.size,fun i hi=>?_⟩
 obtain⟨a0,a1,a2⟩:=a i hi
 exact⟨(c _).trans a0,(c _).trans a1,(c _).trans a2⟩
theorem iTable(w:World)(x:Dx)(hr:RdD w x)(hn:∀i,i<x.ps.length→Wf (elF x.ps i).1):
  Calls Tryz.prog 203 #[.agg #[.int .i64 x.room,.slice x.a x.ps.length x.c]] w fun e w'=>e= .returned (.map (some (w.heap.size+1)))∧Tf w' (w.heap.size+1) x.ps.length (tabOf x.ps)∧Below w.heap.size w w':=by
 have W1:=Wd.made hr 37
 have XA:=zh (fun g e=>(hr.r g e).1)
 have h20:=hr.n
 have HN:=zh hn
 clear hr hn
 have S1:(w.alloc (.cells #[.int .i64 x.room,.slice x.a x.ps.length x.c] 37)).heap.size=w.heap.size+1:=by simp
 have T0:=tf_made (w.alloc (.cells #[.int .i64 x.room,.slice x.a x.ps.length x.c] 37))
 rw[S1] at T0
 have G0:=zh (And.intro (W1.step (one_more _ (.map #[] 0))) T0)
 have hmm:= @run_makeMap Tryz.prog
 clear W1 S1 T0
 go_enter Tryz.func203,Tryz.ntmps203
 go_wp2
 go_loopw [10] (fun i wr=>∃(k:Nat),k≤x.ps.length∧i= .int .i64 k∧Hid (Wd w wr x)∧Hid (Tf wr (w.heap.size+1) k (tabN x.ps k))) (fun i _=>x.ps.length-(intOf i).toNat)
 case atStart=>exact⟨0,by omega,rfl,zh (zu G0).1,zh (zu G0).2⟩
 case round=>
  clear G0
  obtain⟨k,hk,rfl,HW,HT⟩:=hrel
  by_cases t:k<x.ps.length
  ·have kt:(k:Int)<x.ps.length:=by omega
   obtain⟨g,ea,lg,e0,e1,e2⟩:=cells_of (zu HW).r t
   have lt:=(zu HW).lt
   have IX:=SCom14.ixF x.c ea t
   have WF:=(zu HN) k t
   have PR:elF x.ps k=((elF x.ps k).1,(elF x.ps k).2.1,(elF x.ps k).2.2):=rfl
   have TE:=zh (show tabN x.ps (k+1)=upd (tabN x.ps k) (elF x.ps k).1 (some ((elF x.ps k).1,(elF x.ps k).2.1,(elF x.ps k).2.2)) from rfl)
   generalize tabN x.ps k=f at *
   clear PR
   generalize (elF x.ps k).1=z0 at *
   generalize (elF x.ps k).2.1=z1 at *
   generalize (elF x.ps k).2.2=z2 at *
   clear ea
   have OB:=one_more wr (.cells #[.int .i64 z0,.string z1,.string z2] 81)
   have HW2:=zh ((zu HW).step OB)
   have HT2:=zh ((zu HT).below OB)
   clear OB HW HT
   go_wp2_with (first|(at_mapUpdate;refine wp_put _ rfl _ _ _ rfl (w.heap.size+1) k _ rfl (zu HT2) (by omega) z0 (z0,z1,z2) rfl rfl WF ?_;intro w1 t1 g1)|go_in)
   go_roundw
   case rel=>exact⟨k+1,by omega,by go_num,zh (wd_grown (zu HW2) g1 (by omega) (fun g e=>by have:=(zu XA) g e;omega)),zh (by rw[zu TE];exact t1)⟩
   case measure=>simp[intOf];omega
  ·have e:k=x.ps.length:=by omega
   have kt:¬(k:Int)<x.ps.length:=by omega
   subst e
   go_wp2
   go_ret
   exact⟨rfl,zu HT,(zu HW).b⟩
end ITb14
namespace IDk14
open Fil14 OpensF14 DiskH14 DkH14 SDk14 SOk14 SRd14 App14 SLess14 SCopy14 SRef14 SCom14 SPut14 TabF14
open DkH14 (row_step)
theorem pt_step{B O:Nat}{W wr wz:World}{room:Int}{L:List TF}{a:Option Addr}{m c:Nat}(h:Pt B O W wr room L a m c)(k:Below wr.heap.size wr wz):Pt B O W wz room L a m c:=
 ⟨⟨k.os.trans h.gr.os,k.tape.trans h.gr.tape,k.output.trans h.gr.output,Nat.le_trans h.gr.size k.size,fun i hi hr=>(k.block i (Nat.lt_of_lt_of_le hi h.gr.size)).trans (h.gr.block i hi hr)⟩,h.bx.below k h.bx.lt.2,row_step h.ow k⟩
theorem iDisk(w:World)(B n:Nat)(f:Int→Option TF)(room:Int)(hT:Tf w B n f):
  Calls Tryz.prog 204 #[.map (some B),.int .i64 room] w fun e w'=>∃y:Dx,y.room=room∧y.ps=rowF f∧e= .returned (.agg #[.int .i64 y.room,.slice y.a y.ps.length y.c])∧OwD w' w.heap.size y∧Below w.heap.size w w':=by
 have F:∀W1,W1=w.alloc (.cells #[.int .i64 0,.slice none 0 0] 37)→∀W2,W2=W1.alloc (.cells #[.int .i64 room,.slice none 0 0] 37)→
   Bc W2 w.heap.size w.heap.size (.int .i64 0) (.slice none 0 0)∧Bc W2 w.heap.size (w.heap.size+1) (.int .i64 room) (.slice none 0 0)∧Tf W2 B n f∧Below w.heap.size w W2∧W2.heap.size=w.heap.size+2:=by
  intro W1 h1 W2 h2
  have s1:W1.heap.size=w.heap.size+1:=by rw[h1];simp
  have s2:W2.heap.size=w.heap.size+2:=by rw[h2];simp[s1]
  have b1:Below w.heap.size w W1:=by rw[h1];exact one_more _ _
  have b2:Below W1.heap.size W1 W2:=by rw[h2];exact one_more _ _
  have R1:Bc W1 w.heap.size w.heap.size (.int .i64 0) (.slice none 0 0):=by rw[h1];exact Bc.made _ _ (Nat.le_refl _) rfl
  have O1:Bc W2 w.heap.size (w.heap.size+1) (.int .i64 room) (.slice none 0 0):=by rw[h2];exact Bc.made _ _ (by omega) s1.symm
  exact⟨R1.below b2 (by omega),O1,(hT.below b1).below b2,b1.trans (b2.mono b1.size),s2⟩
 have G0:=zh (F _ rfl _ rfl)
 have hB:=hT.lt
 clear F hT
 go_enter Tryz.func204,Tryz.ntmps204
 go_wp2
 generalize (w.alloc (.cells #[.int .i64 0,.slice none 0 0] 37)).alloc (.cells #[.int .i64 room,.slice none 0 0] 37)=W at *
 obtain⟨RB,OB,TW,BW,s3⟩:=zu G0
 have HRB:=zh RB
 have HTW:=zh TW
 have HBW:=zh BW
 have hO:w.heap.size+1<W.heap.size:=by omega
 have hb:W.heap.size=w.heap.size+2:=s3
 clear G0 RB TW BW
 go_loopw [11] (fun i wr=>∃(k m c:Nat) (a:Option Addr),i= .int .i64 k∧k≤22∧m≤k∧Hid (Pt w.heap.size (w.heap.size+1) W wr room (rowN f k) a m c)) (fun i _=>22-(intOf i).toNat)
 case atStart=>exact⟨0,0,0,none,rfl,by omega,by omega,zh ⟨World.grownBy.refl _ _,OB,⟨rfl,.inl ⟨rfl,rfl⟩⟩⟩⟩
 case round=>
  clear OB
  obtain⟨k,m,c,a,rfl,hk,hm,HPt⟩:=hrel
  have bo:=(zu HPt).bx.c1
  have lo:=(zu HPt).bx.lt.2
  have vs:=(zu HPt).gr.size
  by_cases t:k<22
  ·have kt:(k:Int)<22:=by omega
   have WF:Wf (k:Int):=wf_low ⟨by omega,by omega⟩
   have HT:=zh ((zu HTW).kept (zu HPt).gr (by simp;omega))
   have NX:=zh (show rowN f (k+1)=rowN f k++(f k).toList from rfl)
   cases hf:f k with
   |none=>
    have HP:(f k).getD z0=(0,ByteArray.empty,ByteArray.empty):=by rw[hf];rfl
    have HI:(f k).isSome=false:=by rw[hf];rfl
    rw[hf] at NX
    have P1:=zh (pt_step (zu HPt) (one_more wr (.cells #[.int .i64 0,.string ByteArray.empty,.string ByteArray.empty] 81)))
    clear hf HPt bo
    go_wp2_with (first|(at_lookup;refine wp_have _ rfl _ _ rfl B n f rfl (zu HT) k rfl WF _ false HP HI ?_)|go_in)
    go_roundw
    case rel=>exact⟨k+1,m,c,a,by go_num,by omega,by omega,by rw[zu NX,Option.toList_none,List.append_nil];exact P1⟩
    case measure=>simp[intOf];omega
   |some p=>
    obtain⟨p0,p1,p2⟩:=p
    have HP:(f k).getD z0=(p0,p1,p2):=by rw[hf];rfl
    have HI:(f k).isSome=true:=by rw[hf];rfl
    rw[hf] at NX
    clear hf
    have P1:=zh (pt_step (zu HPt) (one_more wr (.cells #[.int .i64 p0,.string p1,.string p2] 81)))
    have SA:(wr.alloc (.cells #[.int .i64 p0,.string p1,.string p2] 81)).heap.size=wr.heap.size+1:=by simp
    have q0:(wr.alloc (.cells #[.int .i64 p0,.string p1,.string p2] 81)).cell? ⟨wr.heap.size,0,none⟩=some (.int .i64 p0):=by simp[go_sem]
    have q1:(wr.alloc (.cells #[.int .i64 p0,.string p1,.string p2] 81)).cell? ⟨wr.heap.size,1,none⟩=some (.string p1):=by simp[go_sem]
    have q2:(wr.alloc (.cells #[.int .i64 p0,.string p1,.string p2] 81)).cell? ⟨wr.heap.size,2,none⟩=some (.string p2):=by simp[go_sem]
    have LC:=zh (show ∀j v,[Value.int .i64 p0,.string p1,.string p2][j]?=some v→((wr.alloc (.cells #[.int .i64 p0,.string p1,.string p2] 81)).alloc (.cells #[.int .i64 p0,.string p1,.string p2] 81)).cell? ⟨wr.heap.size+1,j,none⟩=some v by
     have h:=litm (wr.alloc (.cells #[.int .i64 p0,.string p1,.string p2] 81)) [.int .i64 p0,.string p1,.string p2] 81 _ rfl
     rw[SA] at h
     exact h)
    clear SA
    have bo1:=(zu P1).bx.c1
    have vs1:=zh (zu P1).gr.size
    have lo1:=(zu P1).bx.lt.2
    clear HPt bo
    go_wp2_with (first|(at_lookup;refine wp_have _ rfl _ _ rfl B n f rfl (zu HT) k rfl WF _ true HP HI ?_)|(at_builtin;refine wp_app _ rfl _ _ rfl W.heap.size (.slice a m c) m (flatF (rowN f k)) (wr.heap.size+1) [.int .i64 p0,.string p1,.string p2] rfl rfl (row_step (zu P1).ow (one_more _ (.cells #[.int .i64 p0,.string p1,.string p2] 81))) rfl (zu LC) (by simp[Value.oneCell']) (by omega) (Nat.le_trans (zu vs1) (by simp)) ?_;intro g8 c8 u8 o8 gr8;have PA:=(zu P1).app (p:=(p0,p1,p2)) hO (one_more _ (.cells #[.int .i64 p0,.string p1,.string p2] 81)) gr8 o8;have bx8:=PA.1;have b80:=bx8.c1;have b81:=bx8.free 1;have P8:=zh PA.2;clear o8 gr8 PA bx8 bo1)|go_in)
    go_roundw
    case rel=>exact⟨k+1,m+1,c8,some ⟨g8,0,none⟩,by go_num,by omega,by omega,by rw[zu NX];exact P8⟩
    case measure=>simp[intOf];omega
  ·have e:k=22:=by omega
   subst e
   have B0:=(zu HPt).bx.c0
   have Rk:=zh ((zu HRB).kept (zu HPt).gr (by simp))
   have e0:=(zu Rk).free 0
   have e1:=(zu Rk).free 1
   have r0:=(zu Rk).c0
   have r1:=(zu Rk).c1
   have LM:=zh (show(rowN f 22).length=m by
    have:=(zu HPt).ow.1
    rw[flatF_len] at this
    omega)
   have t0:=(zu Rk).set0 (.int .i64 room)
   have t1:=bc_set1 t0.1 (.slice a m c)
   have ST:=zh (grow_grow t0.2 t1.2)
   have BB:=zh (grow_low (zu HBW) (zu HPt).gr (by omega))
   clear t0 t1
   go_wp2
   refine bodyPost_ret (v:= .agg #[.int .i64 room,.slice a m c]) (by simp[results,Tryz.results204,go_sem,r0,r1]) rfl ⟨⟨room,a,c,rowN f 22⟩,rfl,rfl,by simp[zu LM],?_,?_⟩
   ·unfold OwD
    simp only[zu LM]
    exact row_base (row_kept (zu HPt).ow (zu ST) (by omega)) (by omega)
   ·exact grow_low (zu BB) (zu ST) (by omega)
end IDk14
namespace PTab14
open Fil14 DiskH14 SDk14 SOk14 SRd14 SLess14 SPut14 Pure14 TabF14
structure Tl(f:Int→Option TF)(ps:List TF):Prop where
 asc:Asc ps
 nam:Named ps
 iff:∀k q,f k=some q↔q∈ps∧q.1=k
theorem tabN_hit{ps:List TF}(h:Asc ps):∀k,k≤ps.length→∀i,i<k→tabN ps k (elF ps i).1=some (elF ps i)
 |0=>fun _ i hi=>absurd hi (by omega)
 |k+1=>fun hk i hi=>by
  unfold tabN upd
  by_cases e:i=k
  ·subst e
   rw[if_pos rfl]
  ·have:=asc_lt h (i:=i) (j:=k) (by omega) (by omega)
   rw[if_neg (by omega)]
   exact tabN_hit h k (by omega) i (by omega)
theorem tabN_in{ps:List TF}:∀k,k≤ps.length→∀j q,tabN ps k j=some q→q∈ps∧q.1=j
 |0=>fun _ j q e=>by simp[tabN] at e
 |k+1=>fun hk j q e=>by
  unfold tabN upd at e
  by_cases c:j=(elF ps k).1
  ·rw[if_pos c] at e
   have e':elF ps k=q:=by simpa using e
   rw[←e']
   exact⟨elF_mem (by omega),c.symm⟩
  ·rw[if_neg c] at e
   exact tabN_in k (by omega) j q e
theorem tl_tab{ps:List TF}(h:Asc ps)(hn:Named ps):Tl (tabOf ps) ps:=by
 refine⟨h,hn,fun k q=>⟨fun e=>tabN_in _ (Nat.le_refl _) k q e,fun⟨m,e⟩=>?_⟩⟩
 obtain⟨i,hi,rfl⟩:=mem_elF m
 rw[←e]
 exact tabN_hit h _ (Nat.le_refl _) i hi
theorem tl_put{f:Int→Option TF}{ps:List TF}(h:Tl f ps)(p:TF)(hp:0≤p.1∧p.1≤21):Tl (upd f p.1 (some p)) (putF ps p):=by
 refine⟨put_asc p h.asc,put_named h.asc h.nam hp,fun k q=>?_⟩
 rw[put_mem h.asc]
 unfold upd
 by_cases c:k=p.1
 ·rw[if_pos c]
  constructor
  ·intro e
   have e':p=q:=by simpa using e
   exact⟨.inl e'.symm,by rw[←e',c]⟩
  ·rintro⟨e|⟨_,e⟩,e2⟩
   ·rw[e]
   ·exact absurd (e2.trans c) e
 ·rw[if_neg c,h.iff]
  constructor
  ·rintro⟨a,b⟩
   exact⟨.inr ⟨a,by rw[b];exact c⟩,b⟩
  ·rintro⟨e|⟨a,_⟩,b⟩
   ·exact absurd (by rw[←b,e]) c
   ·exact⟨a,b⟩
theorem tl_less{f:Int→Option TF}{ps:List TF}(h:Tl f ps){k:Nat}(hk:k<ps.length):Tl (upd f (elF ps k).1 none) (lessN ps k ps.length):=by
 refine⟨less_asc h.asc hk,fun p hp=>h.nam p ((less_mem h.asc hk).1 hp).1,fun j q=>?_⟩
 rw[less_mem h.asc hk]
 unfold upd
 by_cases c:j=(elF ps k).1
 ·rw[if_pos c]
  constructor
  ·intro e
   cases e
  ·rintro⟨⟨_,a⟩,b⟩
   exact absurd (b.trans c) a
 ·rw[if_neg c,h.iff]
  constructor
  ·rintro⟨a,b⟩
   exact⟨⟨a,by rw[b];exact c⟩,b⟩
  ·rintro⟨⟨a,_⟩,b⟩
   exact⟨a,b⟩
theorem row_mem{f:Int→Option TF}(p:TF):∀n,p∈rowN f n↔∃k:Nat,k<n∧f k=some p
 |0=>by simp[rowN]
 |n+1=>by
  rw[rowN,List.mem_append,row_mem p n]
  constructor
  ·rintro(⟨k,a,b⟩|h)
   ·exact⟨k,by omega,b⟩
   ·exact⟨n,by omega,by simpa using h⟩
  ·rintro⟨k,a,b⟩
   by_cases e:k=n
   ·subst e
    exact .inr (by simpa using b)
   ·exact .inl ⟨k,by omega,b⟩
theorem row_asc{f:Int→Option TF}(h:∀k q,f k=some q→q.1=k):∀n,Asc (rowN f n)
 |0=>by simp[rowN,Asc]
 |n+1=>by
  unfold Asc rowN
  rw[List.pairwise_append]
  refine⟨row_asc h n,?_,fun p hp q hq=>?_⟩
  ·cases f n<;>simp
  ·obtain⟨k,a,b⟩:=(row_mem p n).1 hp
   have e1:=h _ _ b
   have e2:=h n q (by simpa using hq)
   omega
theorem asc_ext:∀{l r:List TF},Asc l→Asc r→(∀p,p∈l↔p∈r)→l=r
 |[],[]=>fun _ _ _=>rfl
 |[],b::r=>fun _ _ h=>absurd ((h b).2 (by simp)) (by simp)
 |a::l,[]=>fun _ _ h=>absurd ((h a).1 (by simp)) (by simp)
 |a::l,b::r=>fun ha hb h=>by
  unfold Asc at ha hb
  rw[List.pairwise_cons] at ha hb
  have e:a=b:=by
   have h1:=(h a).1 (by simp)
   have h2:=(h b).2 (by simp)
   simp only[List.mem_cons] at h1 h2
   rcases h1 with h1|h1
   ·exact h1
   ·rcases h2 with h2|h2
    ·exact h2.symm
    ·have:=ha.1 b h2
     have:=hb.1 a h1
     omega
  subst e
  rw[asc_ext ha.2 hb.2 (fun p=>?_)]
  have:=h p
  simp only[List.mem_cons] at this
  constructor
  ·intro m
   rcases this.1 (.inr m) with e|e
   ·subst e
    have:=ha.1 p m
    omega
   ·exact e
  ·intro m
   rcases this.2 (.inr m) with e|e
   ·subst e
    have:=hb.1 p m
    omega
   ·exact e
theorem tl_row{f:Int→Option TF}{ps:List TF}(h:Tl f ps):rowF f=ps:=by
 refine asc_ext (row_asc (fun k q e=>((h.iff k q).1 e).2) 22) h.asc (fun p=>?_)
 unfold rowF at *
 rw[row_mem]
 constructor
 ·rintro⟨k,_,e⟩
  exact((h.iff k p).1 e).1
 ·intro m
  have n:=h.nam p m
  exact⟨p.1.toNat,by omega,(h.iff _ _).2 ⟨m,by omega⟩⟩
theorem tl_no{f:Int→Option TF}{ps:List TF}(h:Tl f ps){nm:Int}(e:findF ps nm<0):f nm=none:=by
 cases q:f nm with
 |none=>rfl
 |some p=>
  have:=(h.iff nm p).1 q
  exact absurd this.2 (find_neg e p this.1)
theorem tl_yes{f:Int→Option TF}{ps:List TF}(h:Tl f ps){nm:Int}{k:Nat}(hk:k<ps.length)(e:(elF ps k).1=nm):f nm=some (elF ps k):=(h.iff _ _).2 ⟨elF_mem hk,e⟩
theorem tl_ok{room:Int}{ps:List TF}(h:OkD room ps):Tl (tabOf ps) ps:=tl_tab (asc_of h).1 (asc_of h).2
theorem wf_names{room:Int}{ps:List TF}(h:OkD room ps):∀i,i<ps.length→Wf (elF ps i).1:=fun i hi=>wf_ok (h.2.2.2 i hi).1
theorem el_size{ps:List TF}(hz:sumZ ps≤1048576){k:Nat}(hk:k<ps.length):(elF ps k).2.1.size+(elF ps k).2.2.size≤1048576:=by
 have:=sumZ_next hk
 have:=sumZ_le ps (k+1)
 omega
end PTab14
namespace ICom14
open Fil14 OpensF14 DiskH14 DkH14 SDk14 SOk14 SRd14 SLess14 SCom14 TabF14 ITb14
theorem iOkB(w:World)(x:Dx)(b:Bool)(hr:RdD w x)(hz:sumZ x.ps≤1048576)(h:decide (OkD x.room x.ps)=b):Calls Tryz.prog 115 #[.agg #[.int .i64 x.room,.slice x.a x.ps.length x.c]] w fun e w'=>e= .returned (.bool b)∧Below w.heap.size w w':=by
 rw[←h]
 exact IOk14.iDiskOk w x hr hz
structure St(w u:World)(x:Dx)(B n:Nat)(f:Int→Option TF):Prop where
 d:Wd w u x
 r:Bc u w.heap.size (w.heap.size+1) (.int .i64 0) (.slice none 0 0)
 t:Tf u B n f
 b:w.heap.size+2≤B
 xa:∀g,x.a=some ⟨g,0,none⟩→g<w.heap.size
theorem St.step{w u u':World}{x:Dx}{B n:Nat}{f:Int→Option TF}(h:St w u x B n f)(k:Below u.heap.size u u'):St w u' x B n f:=
 ⟨h.d.step k,h.r.below k h.r.lt.2,h.t.below k,h.b,h.xa⟩
theorem St.turn{w u u':World}{x:Dx}{B n n':Nat}{f f':Int→Option TF}(h:St w u x B n f)(t:Tf u' B n' f')(g:u.grownBy u' (some B)):St w u' x B n' f':=by
 have hb:=h.b
 exact⟨wd_grown h.d g (by omega) (fun k e=>by have:=h.xa k e;omega),h.r.kept g (by simp;omega),t,hb,h.xa⟩
theorem at_bad{room:Int}{ps:List TF}{nm:Int}(h:¬(OkD room ps∧okN nm=true)):atD room ps nm=(-1,1):=by
 unfold atD
 rw[if_neg h]
theorem at_none{room:Int}{ps:List TF}{nm:Int}(h1:OkD room ps)(h2:okN nm=true)(h:findF ps nm<0):atD room ps nm=(findF ps nm,2):=by
 unfold atD
 rw[if_pos ⟨h1,h2⟩,if_pos h]
theorem at_yes{room:Int}{ps:List TF}{nm:Int}{k:Nat}(h1:OkD room ps)(h2:okN nm=true)(h:findF ps nm=k):atD room ps nm=((k:Int),0):=by
 unfold atD
 rw[if_pos ⟨h1,h2⟩,h,if_neg (by omega)]
end ICom14
namespace IAppend14
open Fil14 OpensF14 DiskH14 DkH14 SDk14 SOk14 SRd14 App14 SLess14 SCopy14 SRef14 SCom14 SPut14 SAppend14 TabF14 PTab14 IFile14 ITb14 ICp14 IDk14 ICom14 ISz14
theorem iDiskAppend(w:World)(x:Dx)(nm:Int)(s:ByteArray)(hr:RdD w x)(hz:sumZ x.ps≤1048576)(hs:s.size≤9223372036854775807):Calls Tryz.prog 173 #[.agg #[.int .i64 x.room,.slice x.a x.ps.length x.c],.int .i64 nm,.string s] w (ToldD (appendD x.room x.ps nm s) w):=by
 have G0:=zh (begunD hr)
 have s2:((w.alloc (.cells #[.int .i64 x.room,.slice x.a x.ps.length x.c] 37)).alloc (.cells #[.int .i64 0,.slice none 0 0] 37)).heap.size=w.heap.size+2:=by simp
 have OK0:=zh (fun b h=>iOkB _ x b (zu G0).1.r hz h)
 have N_nm:=zh (fun u b h=>iNameB u nm b h)
 have XA:=zh (fun g e=>(hr.r g e).1)
 have h20:=hr.n
 clear hr
 by_cases ok:OkD x.room x.ps
 case neg=>
  have E:=zh (show appendD x.room x.ps nm s=((0,[]),1) by unfold appendD;rw[if_neg (fun h=>ok h.1)])
  generalize appendD x.room x.ps nm s=rr at *
  have OKD:=zh (decide_eq_false ok)
  clear ok
  go_enter Tryz.func173,Tryz.ntmps173
  go_wp2_with fail
  refine((zu OK0) false (zu OKD)).mono ?_
  rintro e u ⟨rfl,b1⟩
  have R2:=zh ((zu G0).2.below b1 (by omega))
  have WU:=zh ((zu G0).1.step b1)
  have us:=b1.size
  rw[s2] at us
  clear b1 G0 OK0 s2
  have c0:=(zu WU).c0
  have c1:=(zu WU).c1
  have lt:=(zu WU).lt
  have EN:=zh (endedD (y:=⟨0,none,0,[]⟩) (base0:=w.heap.size+2) (zu WU).b (zu R2) ⟨rfl,.inl ⟨rfl,rfl⟩⟩ (by omega))
  have f0:=(zu R2).free 0
  have f1:=(zu R2).free 1
  have r0:=(zu R2).c0
  have r1:=(zu R2).c1
  clear c0 c1 lt
  go_wp2
  refine bodyPost_ret (v:= .tuple #[.agg #[.int .i64 0,.slice none 0 0],.int .i64 1]) (by simp[results,Tryz.results173,go_sem,r0,r1]) rfl ?_
  rw[zu E]
  exact⟨⟨0,none,0,[]⟩,rfl,rfl,(zu EN).1,(zu EN).2⟩
 have OKD:=zh (decide_eq_true ok)
 have OK:=zh ok
 by_cases nk:okN nm=true
 case neg=>
  have E:=zh (show appendD x.room x.ps nm s=((0,[]),1) by unfold appendD;rw[if_neg (fun h=>nk h.2)])
  generalize appendD x.room x.ps nm s=rr at *
  have NK:=zh (show okN nm=false by simpa using nk)
  clear ok nk
  go_enter Tryz.func173,Tryz.ntmps173
  go_wp2_with fail
  refine((zu OK0) true (zu OKD)).mono ?_
  rintro e u ⟨rfl,b1⟩
  have R2:=zh ((zu G0).2.below b1 (by omega))
  have WU:=zh ((zu G0).1.step b1)
  have us:=b1.size
  rw[s2] at us
  clear b1 G0 OK0 s2
  have c0:=(zu WU).c0
  have c1:=(zu WU).c1
  have lt:=(zu WU).lt
  go_wp2_with fail
  refine((zu N_nm) _ false (zu NK)).mono ?_
  rintro e u ⟨rfl,rfl⟩
  have EN:=zh (endedD (y:=⟨0,none,0,[]⟩) (base0:=w.heap.size+2) (zu WU).b (zu R2) ⟨rfl,.inl ⟨rfl,rfl⟩⟩ (by omega))
  have f0:=(zu R2).free 0
  have f1:=(zu R2).free 1
  have r0:=(zu R2).c0
  have r1:=(zu R2).c1
  clear c0 c1 lt
  go_wp2
  refine bodyPost_ret (v:= .tuple #[.agg #[.int .i64 0,.slice none 0 0],.int .i64 1]) (by simp[results,Tryz.results173,go_sem,r0,r1]) rfl ?_
  rw[zu E]
  exact⟨⟨0,none,0,[]⟩,rfl,rfl,(zu EN).1,(zu EN).2⟩
 have NK:=zh nk
 have WF:=zh (wf_ok nk)
 have TL:=zh (tl_ok ok)
 have RE:=zh (show appendD x.room x.ps nm s=if x.room-sumZ x.ps<s.size then((x.room,x.ps),3) else((x.room,putF x.ps (appF x.ps nm s)),0) by unfold appendD;rw[if_pos ⟨ok,nk⟩])
 generalize appendD x.room x.ps nm s=rr at *
 have z60:=ok.1
 have zr:=ok.2.2.1
 obtain⟨p,HP,EA,SP⟩:∃p:TF,(tabOf x.ps nm).getD z0=p∧appF x.ps nm s=(nm,p.2.1,p.2.2++s)∧p.2.1.size+p.2.2.size≤1048576:=by
  unfold appF
  by_cases q:findF x.ps nm<0
  ·have FN:=tl_no (zu TL) q
   refine⟨z0,by rw[FN];rfl,?_,by simp⟩
   rw[if_neg (by omega)]
   show(nm,ByteArray.empty,s)=(nm,ByteArray.empty,ByteArray.empty++s)
   rw[ByteArray.empty_append]
  ·obtain⟨k,ek,kl,en⟩:=findF_in (ps:=x.ps) (nm:=nm) (by omega)
   have FY:=tl_yes (zu TL) kl en
   refine⟨elF x.ps k,by rw[FY];rfl,?_,el_size hz kl⟩
   rw[if_pos (by omega),ek,Int.toNat_natCast,en]
 have ROW:=zh (tl_row (tl_put (zu TL) (appF x.ps nm s) (by rw[EA];exact Pure14.ok_named.1 nk)))
 rw[EA] at ROW RE
 obtain⟨p0,p1,p2⟩:=p
 have HP:=zh HP
 simp only at ROW RE SP
 obtain⟨b,hb⟩:∃b,decide ((s.size:Int)>x.room-sumZ x.ps)=b:=⟨_,rfl⟩
 have HB:=zh hb
 have wr:wrap64 (x.room-sumZ x.ps)=x.room-sumZ x.ps:=by rw[wrap64];omega
 have wr2:IntKind.i64.wrap (x.room-sumZ x.ps)=x.room-sumZ x.ps:=by rw[IntKind.wrap_i64];omega
 clear EA TL ok nk
 go_enter Tryz.func173,Tryz.ntmps173
 go_wp2_with fail
 refine((zu OK0) true (zu OKD)).mono ?_
 rintro e u ⟨rfl,b1⟩
 have R2:=zh ((zu G0).2.below b1 (by omega))
 have WU:=zh ((zu G0).1.step b1)
 have us:=b1.size
 rw[s2] at us
 clear b1 G0 OK0 s2
 have c0:=(zu WU).c0
 have c1:=(zu WU).c1
 have lt:=(zu WU).lt
 go_wp2_with fail
 refine((zu N_nm) _ true (zu NK)).mono ?_
 rintro e u ⟨rfl,rfl⟩
 have K0:u.cell? ⟨w.heap.size,0,none⟩=some (.int .i64 x.room)∧u.cell? ⟨w.heap.size,1,none⟩=some (.slice x.a x.ps.length x.c):=⟨c0,c1⟩
 go_wp2_with fail
 refine wp_region_held_drew (S:=(fun w'=>w'.cell? ⟨w.heap.size,0,none⟩=some (.int .i64 x.room)∧w'.cell? ⟨w.heap.size,1,none⟩=some (.slice x.a x.ps.length x.c))) (by kernel_rfl) K0 (fun hHeld=>?_)
 refine zT 0 19 (.string s) rfl hHeld ?_
 refine zT 1 20 (.int .i64 s.size) rfl hHeld ?_
 refine zT 2 21 (.pointer (some ⟨w.heap.size,0,none⟩)) rfl hHeld ?_
 refine zT 3 22 (.int .i64 x.room) rfl hHeld ?_
 refine zT 4 23 (.agg #[.int .i64 x.room,.slice x.a x.ps.length x.c]) rfl hHeld ?_
 try simp only[Act.put,zA,zB,zC]
 refine zR 5 rfl (fun K hK=>?_)
 go_simp
 go_wp2_with fail
 refine(iSizeD u.drew x (zu WU).drew.r hz).mono ?_
 rintro e v ⟨rfl,bb⟩
 have bb1:Below u.heap.size u v:=⟨bb.os,bb.tape,bb.output,bb.size,bb.block⟩
 have WV:=zh ((zu WU).step bb1)
 have RV:=zh ((zu R2).below bb1 (zu R2).lt.2)
 have K1:v.cell? ⟨w.heap.size,0,none⟩=some (.int .i64 x.room)∧v.cell? ⟨w.heap.size,1,none⟩=some (.slice x.a x.ps.length x.c):=⟨(zu WV).c0,(zu WV).c1⟩
 have vs:=bb1.size
 clear bb bb1
 go_wp2_with fail
 refine hK.out _ _ K1 (fun hHeld=>?_)
 clear hK K
 refine zT 6 25 (.int .i64 (x.room-sumZ x.ps)) rfl hHeld ?_
 refine zT 7 26 (.bool b) rfl hHeld ?_
 try simp only[Act.put,zA,zB,zC]
 refine wpAnyH_done (by kernel_rfl) ?_ _
 clear K0 K1 c0 c1 lt WU R2 wr wr2
 cases b with
 |true=>
  have E:=zh (show rr=((x.room,x.ps),3) by rw[zu RE,if_pos (by have:=zu HB;simpa using this)])
  have c0:=(zu WV).c0
  have c1:=(zu WV).c1
  have lt:=(zu WV).lt
  clear hb HB RE ROW HP
  go_wp2_with fail
  refine(iCopied _ x (zu WV).r).mono ?_
  rintro e u9 ⟨y,hy0,hy,rfl,oy,b9⟩
  have R9:=zh ((zu RV).below b9 (zu RV).lt.2)
  have HY:=zh (show(y.room,y.ps)=(x.room,x.ps) by rw[hy0,hy])
  have sz9:=(zu RV).lt.2
  have EN:=zh (endedD ((zu WV).b.trans (b9.mono (zu WV).b.size)) (zu R9) oy (by omega))
  have f0:=(zu R9).free 0
  have f1:=(zu R9).free 1
  have r0:=(zu R9).c0
  have r1:=(zu R9).c1
  clear b9 oy hy0 hy c0 c1 lt
  go_wp2
  refine bodyPost_ret (v:= .tuple #[.agg #[.int .i64 y.room,.slice y.a y.ps.length y.c],.int .i64 3]) (by simp[results,Tryz.results173,go_sem,r0,r1]) rfl ?_
  rw[zu E]
  exact⟨y,zu HY,rfl,(zu EN).1,(zu EN).2⟩
 |false=>
  have E:=zh (show rr=((x.room,putF x.ps (nm,p1,p2++s)),0) by rw[zu RE,if_neg (by have:=zu HB;simpa using this)])
  have sr:(s.size:Int)≤x.room-sumZ x.ps:=by have:=zu HB;simpa using this
  have c0:=(zu WV).c0
  have c1:=(zu WV).c1
  have lt:=(zu WV).lt
  clear hb HB RE
  go_wp2_with fail
  refine(iTable _ x (zu WV).r (wf_names (zu OK))).mono ?_
  rintro e u1 ⟨rfl,tt,b2⟩
  have S1:=zh (show St w u1 x (v.heap.size+1) x.ps.length (tabOf x.ps) from⟨(zu WV).step b2,(zu RV).below b2 (zu RV).lt.2,tt,by omega,zu XA⟩)
  have us1:=b2.size
  clear tt b2 WV RV c0 c1 lt
  have S2:=zh ((zu S1).step (one_more u1 (.cells #[.int .i64 p0,.string p1,.string p2] 81)))
  have sc:p2.size+s.size≤9223372036854775807:=by omega
  have c0:=(zu S2).d.c0
  have c1:=(zu S2).d.c1
  have lt:=(zu S2).d.lt
  go_wp2_with (first|(at_lookup;refine wp_look _ rfl _ _ rfl (v.heap.size+1) _ _ rfl (zu S1).t nm rfl (zu WF) _ (zu HP) ?_)|(at_mapUpdate;refine wp_put _ rfl _ _ _ rfl (v.heap.size+1) _ _ rfl (zu S2).t h20 nm (nm,p1,p2++s) rfl rfl (zu WF) ?_;intro u4 t4 g4;have S4:=zh ((zu S2).turn t4 g4);clear t4 g4 c0 c1 lt;have c0:=(zu S4).d.c0;have c1:=(zu S4).d.c1;have lt:=(zu S4).d.lt)|fail)
  refine(iDisk _ (v.heap.size+1) _ _ x.room (zu S4).t).mono ?_
  rintro e u9 ⟨y,hy0,hy,rfl,oy,b9⟩
  have R9:=zh ((zu S4).r.below b9 (zu S4).r.lt.2)
  have HY:=zh (show(y.room,y.ps)=(x.room,putF x.ps (nm,p1,p2++s)) by rw[hy0,hy,zu ROW])
  have sz9:=(zu S4).r.lt.2
  have EN:=zh (endedD ((zu S4).d.b.trans (b9.mono (zu S4).d.b.size)) (zu R9) oy (by omega))
  have f0:=(zu R9).free 0
  have f1:=(zu R9).free 1
  have r0:=(zu R9).c0
  have r1:=(zu R9).c1
  clear b9 oy hy0 hy c0 c1 lt
  go_wp2
  refine bodyPost_ret (v:= .tuple #[.agg #[.int .i64 y.room,.slice y.a y.ps.length y.c],.int .i64 0]) (by simp[results,Tryz.results173,go_sem,r0,r1]) rfl ?_
  rw[zu E]
  exact⟨y,zu HY,rfl,(zu EN).1,(zu EN).2⟩
end IAppend14
namespace ISync14
open Fil14 OpensF14 DiskH14 DkH14 SDk14 SOk14 SRd14 App14 SLess14 SCopy14 SRef14 SCom14 SPut14 SSync14 TabF14 PTab14 IFile14 ITb14 ICp14 IDk14 ICom14
theorem iDiskSync(w:World)(x:Dx)(nm:Int)(hr:RdD w x)(hz:sumZ x.ps≤1048576):Calls Tryz.prog 174 #[.agg #[.int .i64 x.room,.slice x.a x.ps.length x.c],.int .i64 nm] w (ToldD (syncD x.room x.ps nm) w):=by
 have G0:=zh (begunD hr)
 have s2:((w.alloc (.cells #[.int .i64 x.room,.slice x.a x.ps.length x.c] 37)).alloc (.cells #[.int .i64 0,.slice none 0 0] 37)).heap.size=w.heap.size+2:=by simp
 have OK0:=zh (fun b h=>iOkB _ x b (zu G0).1.r hz h)
 have N_nm:=zh (fun u b h=>iNameB u nm b h)
 have XA:=zh (fun g e=>(hr.r g e).1)
 have h20:=hr.n
 clear hr
 by_cases ok:OkD x.room x.ps
 case neg=>
  have E:=zh (show syncD x.room x.ps nm=((0,[]),1) by unfold syncD;rw[at_bad (fun h=>ok h.1)];rfl)
  generalize syncD x.room x.ps nm=rr at *
  have OKD:=zh (decide_eq_false ok)
  clear ok
  go_enter Tryz.func174,Tryz.ntmps174
  go_wp2_with fail
  refine((zu OK0) false (zu OKD)).mono ?_
  rintro e u ⟨rfl,b1⟩
  have R2:=zh ((zu G0).2.below b1 (by omega))
  have WU:=zh ((zu G0).1.step b1)
  have us:=b1.size
  rw[s2] at us
  clear b1 G0 OK0 s2
  have c0:=(zu WU).c0
  have c1:=(zu WU).c1
  have lt:=(zu WU).lt
  have EN:=zh (endedD (y:=⟨0,none,0,[]⟩) (base0:=w.heap.size+2) (zu WU).b (zu R2) ⟨rfl,.inl ⟨rfl,rfl⟩⟩ (by omega))
  have f0:=(zu R2).free 0
  have f1:=(zu R2).free 1
  have r0:=(zu R2).c0
  have r1:=(zu R2).c1
  clear c0 c1 lt
  go_wp2
  refine bodyPost_ret (v:= .tuple #[.agg #[.int .i64 0,.slice none 0 0],.int .i64 1]) (by simp[results,Tryz.results174,go_sem,r0,r1]) rfl ?_
  rw[zu E]
  exact⟨⟨0,none,0,[]⟩,rfl,rfl,(zu EN).1,(zu EN).2⟩
 have OKD:=zh (decide_eq_true ok)
 have OK:=zh ok
 by_cases nk:okN nm=true
 case neg=>
  have E:=zh (show syncD x.room x.ps nm=((0,[]),1) by unfold syncD;rw[at_bad (fun h=>nk h.2)];rfl)
  generalize syncD x.room x.ps nm=rr at *
  have NK:=zh (show okN nm=false by simpa using nk)
  clear ok nk
  go_enter Tryz.func174,Tryz.ntmps174
  go_wp2_with fail
  refine((zu OK0) true (zu OKD)).mono ?_
  rintro e u ⟨rfl,b1⟩
  have R2:=zh ((zu G0).2.below b1 (by omega))
  have WU:=zh ((zu G0).1.step b1)
  have us:=b1.size
  rw[s2] at us
  clear b1 G0 OK0 s2
  have c0:=(zu WU).c0
  have c1:=(zu WU).c1
  have lt:=(zu WU).lt
  go_wp2_with fail
  refine((zu N_nm) _ false (zu NK)).mono ?_
  rintro e u ⟨rfl,rfl⟩
  have EN:=zh (endedD (y:=⟨0,none,0,[]⟩) (base0:=w.heap.size+2) (zu WU).b (zu R2) ⟨rfl,.inl ⟨rfl,rfl⟩⟩ (by omega))
  have f0:=(zu R2).free 0
  have f1:=(zu R2).free 1
  have r0:=(zu R2).c0
  have r1:=(zu R2).c1
  clear c0 c1 lt
  go_wp2
  refine bodyPost_ret (v:= .tuple #[.agg #[.int .i64 0,.slice none 0 0],.int .i64 1]) (by simp[results,Tryz.results174,go_sem,r0,r1]) rfl ?_
  rw[zu E]
  exact⟨⟨0,none,0,[]⟩,rfl,rfl,(zu EN).1,(zu EN).2⟩
 have NK:=zh nk
 have WF:=zh (wf_ok nk)
 have TL:=zh (tl_ok ok)
 by_cases q:findF x.ps nm<0
 case pos=>
  have E:=zh (show syncD x.room x.ps nm=((x.room,x.ps),2) by unfold syncD;rw[at_none ok nk q];rfl)
  generalize syncD x.room x.ps nm=rr at *
  have FN:=tl_no (zu TL) q
  have HP:=zh (show(tabOf x.ps nm).getD z0=(0,ByteArray.empty,ByteArray.empty) by rw[FN];rfl)
  have HI:=zh (show(tabOf x.ps nm).isSome=false by rw[FN];rfl)
  clear ok nk q FN
  go_enter Tryz.func174,Tryz.ntmps174
  go_wp2_with fail
  refine((zu OK0) true (zu OKD)).mono ?_
  rintro e u ⟨rfl,b1⟩
  have R2:=zh ((zu G0).2.below b1 (by omega))
  have WU:=zh ((zu G0).1.step b1)
  have us:=b1.size
  rw[s2] at us
  clear b1 G0 OK0 s2
  have c0:=(zu WU).c0
  have c1:=(zu WU).c1
  have lt:=(zu WU).lt
  go_wp2_with fail
  refine((zu N_nm) _ true (zu NK)).mono ?_
  rintro e u ⟨rfl,rfl⟩
  go_wp2_with fail
  refine(iTable _ x (zu WU).r (wf_names (zu OK))).mono ?_
  rintro e u1 ⟨rfl,tt,b2⟩
  have S1:=zh (show St w u1 x (u.heap.size+1) x.ps.length (tabOf x.ps) from⟨(zu WU).step b2,(zu R2).below b2 (zu R2).lt.2,tt,by omega,zu XA⟩)
  have us1:=b2.size
  clear tt b2 WU R2 c0 c1 lt
  have S2:=zh ((zu S1).step (one_more u1 (.cells #[.int .i64 0,.string ByteArray.empty,.string ByteArray.empty] 81)))
  have c0:=(zu S2).d.c0
  have c1:=(zu S2).d.c1
  have lt:=(zu S2).d.lt
  go_wp2_with (first|(at_lookup;refine wp_have _ rfl _ _ rfl (u.heap.size+1) _ _ rfl (zu S1).t nm rfl (zu WF) _ false (zu HP) (zu HI) ?_)|fail)
  refine(iCopied _ x (zu S2).d.r).mono ?_
  rintro e u9 ⟨y,hy0,hy,rfl,oy,b9⟩
  have R9:=zh ((zu S2).r.below b9 (zu S2).r.lt.2)
  have HY:=zh (show(y.room,y.ps)=(x.room,x.ps) by rw[hy0,hy])
  have sz9:=(zu S2).r.lt.2
  have EN:=zh (endedD ((zu S2).d.b.trans (b9.mono (zu S2).d.b.size)) (zu R9) oy (by omega))
  have f0:=(zu R9).free 0
  have f1:=(zu R9).free 1
  have r0:=(zu R9).c0
  have r1:=(zu R9).c1
  clear b9 oy hy0 hy c0 c1 lt
  go_wp2
  refine bodyPost_ret (v:= .tuple #[.agg #[.int .i64 y.room,.slice y.a y.ps.length y.c],.int .i64 2]) (by simp[results,Tryz.results174,go_sem,r0,r1]) rfl ?_
  rw[zu E]
  exact⟨y,zu HY,rfl,(zu EN).1,(zu EN).2⟩
 obtain⟨k,ek,kl,en⟩:=findF_in (ps:=x.ps) (nm:=nm) (by omega)
 have E:=zh (show syncD x.room x.ps nm=((x.room,putF x.ps (nm,bytesAt x.ps k,ByteArray.empty)),0) by unfold syncD;rw[at_yes ok nk ek];rfl)
 generalize syncD x.room x.ps nm=rr at *
 have ROW:=zh (tl_row (tl_put (zu TL) (nm,bytesAt x.ps k,ByteArray.empty) (Pure14.ok_named.1 nk)))
 have BY:bytesAt x.ps k=(elF x.ps k).2.1++(elF x.ps k).2.2:=rfl
 have FY:=tl_yes (zu TL) kl en
 have SZ:=zh (el_size hz kl)
 have HP:=zh (show(tabOf x.ps nm).getD z0=((elF x.ps k).1,(elF x.ps k).2.1,(elF x.ps k).2.2) by rw[FY];rfl)
 have HI:=zh (show(tabOf x.ps nm).isSome=true by rw[FY];rfl)
 rw[BY] at ROW E
 clear ok nk q FY BY ek en TL
 generalize (elF x.ps k).1=p0 at *
 generalize (elF x.ps k).2.1=p1 at *
 generalize (elF x.ps k).2.2=p2 at *
 clear kl
 go_enter Tryz.func174,Tryz.ntmps174
 go_wp2_with fail
 refine((zu OK0) true (zu OKD)).mono ?_
 rintro e u ⟨rfl,b1⟩
 have R2:=zh ((zu G0).2.below b1 (by omega))
 have WU:=zh ((zu G0).1.step b1)
 have us:=b1.size
 rw[s2] at us
 clear b1 G0 OK0 s2
 have c0:=(zu WU).c0
 have c1:=(zu WU).c1
 have lt:=(zu WU).lt
 go_wp2_with fail
 refine((zu N_nm) _ true (zu NK)).mono ?_
 rintro e u ⟨rfl,rfl⟩
 go_wp2_with fail
 refine(iTable _ x (zu WU).r (wf_names (zu OK))).mono ?_
 rintro e u1 ⟨rfl,tt,b2⟩
 have S1:=zh (show St w u1 x (u.heap.size+1) x.ps.length (tabOf x.ps) from⟨(zu WU).step b2,(zu R2).below b2 (zu R2).lt.2,tt,by omega,zu XA⟩)
 have us1:=b2.size
 clear tt b2 WU R2 c0 c1 lt
 have S2:=zh ((zu S1).step (one_more u1 (.cells #[.int .i64 p0,.string p1,.string p2] 81)))
 have c0:=(zu S2).d.c0
 have c1:=(zu S2).d.c1
 have lt:=(zu S2).d.lt
 go_wp2_with (first|(at_lookup;refine wp_have _ rfl _ _ rfl (u.heap.size+1) _ _ rfl (zu S1).t nm rfl (zu WF) _ true (zu HP) (zu HI) ?_)|fail)
 refine(iText _ p0 p1 p2 (zu SZ)).mono ?_
 rintro e u3 ⟨rfl,b3⟩
 have S3:=zh ((zu S2).step b3)
 clear b3 c0 c1 lt S1
 have c0:=(zu S3).d.c0
 have c1:=(zu S3).d.c1
 have lt:=(zu S3).d.lt
 go_wp2_with (first|(at_mapUpdate;refine wp_put _ rfl _ _ _ rfl (u.heap.size+1) _ _ rfl (zu S3).t h20 nm (nm,p1++p2,ByteArray.empty) rfl rfl (zu WF) ?_;intro u4 t4 g4;have S4:=zh ((zu S3).turn t4 g4);clear t4 g4 c0 c1 lt;have c0:=(zu S4).d.c0;have c1:=(zu S4).d.c1;have lt:=(zu S4).d.lt)|fail)
 refine(iDisk _ (u.heap.size+1) _ _ x.room (zu S4).t).mono ?_
 rintro e u9 ⟨y,hy0,hy,rfl,oy,b9⟩
 have R9:=zh ((zu S4).r.below b9 (zu S4).r.lt.2)
 have HY:=zh (show(y.room,y.ps)=(x.room,putF x.ps (nm,p1++p2,ByteArray.empty)) by rw[hy0,hy,zu ROW])
 have sz9:=(zu S4).r.lt.2
 have EN:=zh (endedD ((zu S4).d.b.trans (b9.mono (zu S4).d.b.size)) (zu R9) oy (by omega))
 have f0:=(zu R9).free 0
 have f1:=(zu R9).free 1
 have r0:=(zu R9).c0
 have r1:=(zu R9).c1
 clear b9 oy hy0 hy c0 c1 lt
 go_wp2
 refine bodyPost_ret (v:= .tuple #[.agg #[.int .i64 y.room,.slice y.a y.ps.length y.c],.int .i64 0]) (by simp[results,Tryz.results174,go_sem,r0,r1]) rfl ?_
 rw[zu E]
 exact⟨y,zu HY,rfl,(zu EN).1,(zu EN).2⟩
end ISync14
namespace IMove14
open Fil14 OpensF14 DiskH14 DkH14 SDk14 SOk14 SRd14 App14 SLess14 SCopy14 SRef14 SCom14 SPut14 SMove14 TabF14 PTab14 IFile14 ITb14 ICp14 IDk14 ICom14
theorem iDiskMove(w:World)(x:Dx)(nm to:Int)(hr:RdD w x)(hz:sumZ x.ps≤1048576):Calls Tryz.prog 175 #[.agg #[.int .i64 x.room,.slice x.a x.ps.length x.c],.int .i64 nm,.int .i64 to] w (ToldD (moveD x.room x.ps nm to) w):=by
 have G0:=zh (begunD hr)
 have s2:((w.alloc (.cells #[.int .i64 x.room,.slice x.a x.ps.length x.c] 37)).alloc (.cells #[.int .i64 0,.slice none 0 0] 37)).heap.size=w.heap.size+2:=by simp
 have OK0:=zh (fun b h=>iOkB _ x b (zu G0).1.r hz h)
 have N_nm:=zh (fun u b h=>iNameB u nm b h)
 have N_to:=zh (fun u b h=>iNameB u to b h)
 have XA:=zh (fun g e=>(hr.r g e).1)
 have h20:=hr.n
 clear hr
 by_cases ok:OkD x.room x.ps
 case neg=>
  have E:=zh (show moveD x.room x.ps nm to=((0,[]),1) by
   unfold moveD
   split
   ·rw[at_bad (fun h=>ok h.1)];rfl
   ·rfl)
  generalize moveD x.room x.ps nm to=rr at *
  have OKD:=zh (decide_eq_false ok)
  clear ok
  go_enter Tryz.func175,Tryz.ntmps175
  go_wp2_with fail
  refine((zu OK0) false (zu OKD)).mono ?_
  rintro e u ⟨rfl,b1⟩
  have R2:=zh ((zu G0).2.below b1 (by omega))
  have WU:=zh ((zu G0).1.step b1)
  have us:=b1.size
  rw[s2] at us
  clear b1 G0 OK0 s2
  have c0:=(zu WU).c0
  have c1:=(zu WU).c1
  have lt:=(zu WU).lt
  have EN:=zh (endedD (y:=⟨0,none,0,[]⟩) (base0:=w.heap.size+2) (zu WU).b (zu R2) ⟨rfl,.inl ⟨rfl,rfl⟩⟩ (by omega))
  have f0:=(zu R2).free 0
  have f1:=(zu R2).free 1
  have r0:=(zu R2).c0
  have r1:=(zu R2).c1
  clear c0 c1 lt
  go_wp2
  refine bodyPost_ret (v:= .tuple #[.agg #[.int .i64 0,.slice none 0 0],.int .i64 1]) (by simp[results,Tryz.results175,go_sem,r0,r1]) rfl ?_
  rw[zu E]
  exact⟨⟨0,none,0,[]⟩,rfl,rfl,(zu EN).1,(zu EN).2⟩
 have OKD:=zh (decide_eq_true ok)
 have OK:=zh ok
 by_cases nk:okN nm=true
 case neg=>
  have E:=zh (show moveD x.room x.ps nm to=((0,[]),1) by
   unfold moveD
   split
   ·rw[at_bad (fun h=>nk h.2)];rfl
   ·rfl)
  generalize moveD x.room x.ps nm to=rr at *
  have NK:=zh (show okN nm=false by simpa using nk)
  clear ok nk
  go_enter Tryz.func175,Tryz.ntmps175
  go_wp2_with fail
  refine((zu OK0) true (zu OKD)).mono ?_
  rintro e u ⟨rfl,b1⟩
  have R2:=zh ((zu G0).2.below b1 (by omega))
  have WU:=zh ((zu G0).1.step b1)
  have us:=b1.size
  rw[s2] at us
  clear b1 G0 OK0 s2
  have c0:=(zu WU).c0
  have c1:=(zu WU).c1
  have lt:=(zu WU).lt
  go_wp2_with fail
  refine((zu N_nm) _ false (zu NK)).mono ?_
  rintro e u ⟨rfl,rfl⟩
  have EN:=zh (endedD (y:=⟨0,none,0,[]⟩) (base0:=w.heap.size+2) (zu WU).b (zu R2) ⟨rfl,.inl ⟨rfl,rfl⟩⟩ (by omega))
  have f0:=(zu R2).free 0
  have f1:=(zu R2).free 1
  have r0:=(zu R2).c0
  have r1:=(zu R2).c1
  clear c0 c1 lt
  go_wp2
  refine bodyPost_ret (v:= .tuple #[.agg #[.int .i64 0,.slice none 0 0],.int .i64 1]) (by simp[results,Tryz.results175,go_sem,r0,r1]) rfl ?_
  rw[zu E]
  exact⟨⟨0,none,0,[]⟩,rfl,rfl,(zu EN).1,(zu EN).2⟩
 have NK:=zh nk
 have WF:=zh (wf_ok nk)
 have TL:=zh (tl_ok ok)
 by_cases tk:okN to=true
 case neg=>
  have E:=zh (show moveD x.room x.ps nm to=((0,[]),1) by unfold moveD;rw[if_neg (fun h=>tk h.1)];rfl)
  generalize moveD x.room x.ps nm to=rr at *
  have TK:=zh (show okN to=false by simpa using tk)
  clear ok nk tk
  go_enter Tryz.func175,Tryz.ntmps175
  go_wp2_with fail
  refine((zu OK0) true (zu OKD)).mono ?_
  rintro e u ⟨rfl,b1⟩
  have R2:=zh ((zu G0).2.below b1 (by omega))
  have WU:=zh ((zu G0).1.step b1)
  have us:=b1.size
  rw[s2] at us
  clear b1 G0 OK0 s2
  have c0:=(zu WU).c0
  have c1:=(zu WU).c1
  have lt:=(zu WU).lt
  go_wp2_with fail
  refine((zu N_nm) _ true (zu NK)).mono ?_
  rintro e u ⟨rfl,rfl⟩
  go_wp2_with fail
  refine((zu N_to) _ false (zu TK)).mono ?_
  rintro e u ⟨rfl,rfl⟩
  have EN:=zh (endedD (y:=⟨0,none,0,[]⟩) (base0:=w.heap.size+2) (zu WU).b (zu R2) ⟨rfl,.inl ⟨rfl,rfl⟩⟩ (by omega))
  have f0:=(zu R2).free 0
  have f1:=(zu R2).free 1
  have r0:=(zu R2).c0
  have r1:=(zu R2).c1
  clear c0 c1 lt
  go_wp2
  refine bodyPost_ret (v:= .tuple #[.agg #[.int .i64 0,.slice none 0 0],.int .i64 1]) (by simp[results,Tryz.results175,go_sem,r0,r1]) rfl ?_
  rw[zu E]
  exact⟨⟨0,none,0,[]⟩,rfl,rfl,(zu EN).1,(zu EN).2⟩
 have TK:=zh tk
 have WT:=zh (wf_ok tk)
 by_cases ne:nm=to
 case pos=>
  have E:=zh (show moveD x.room x.ps nm to=((0,[]),1) by unfold moveD;rw[if_neg (fun h=>h.2 ne)];rfl)
  generalize moveD x.room x.ps nm to=rr at *
  have eb:(nm==to)=true:=by simpa using ne
  clear ok nk tk ne
  go_enter Tryz.func175,Tryz.ntmps175
  go_wp2_with fail
  refine((zu OK0) true (zu OKD)).mono ?_
  rintro e u ⟨rfl,b1⟩
  have R2:=zh ((zu G0).2.below b1 (by omega))
  have WU:=zh ((zu G0).1.step b1)
  have us:=b1.size
  rw[s2] at us
  clear b1 G0 OK0 s2
  have c0:=(zu WU).c0
  have c1:=(zu WU).c1
  have lt:=(zu WU).lt
  go_wp2_with fail
  refine((zu N_nm) _ true (zu NK)).mono ?_
  rintro e u ⟨rfl,rfl⟩
  go_wp2_with fail
  refine((zu N_to) _ true (zu TK)).mono ?_
  rintro e u ⟨rfl,rfl⟩
  have EN:=zh (endedD (y:=⟨0,none,0,[]⟩) (base0:=w.heap.size+2) (zu WU).b (zu R2) ⟨rfl,.inl ⟨rfl,rfl⟩⟩ (by omega))
  have f0:=(zu R2).free 0
  have f1:=(zu R2).free 1
  have r0:=(zu R2).c0
  have r1:=(zu R2).c1
  clear c0 c1 lt
  go_wp2
  refine bodyPost_ret (v:= .tuple #[.agg #[.int .i64 0,.slice none 0 0],.int .i64 1]) (by simp[results,Tryz.results175,go_sem,r0,r1]) rfl ?_
  rw[zu E]
  exact⟨⟨0,none,0,[]⟩,rfl,rfl,(zu EN).1,(zu EN).2⟩
 have eb:(nm==to)=false:=by simpa using ne
 by_cases q:findF x.ps nm<0
 case pos=>
  have E:=zh (show moveD x.room x.ps nm to=((x.room,x.ps),2) by unfold moveD;rw[if_pos ⟨tk,ne⟩,at_none ok nk q];rfl)
  generalize moveD x.room x.ps nm to=rr at *
  have FN:=tl_no (zu TL) q
  have HP:=zh (show(tabOf x.ps nm).getD z0=(0,ByteArray.empty,ByteArray.empty) by rw[FN];rfl)
  have HI:=zh (show(tabOf x.ps nm).isSome=false by rw[FN];rfl)
  clear ok nk q FN tk ne
  go_enter Tryz.func175,Tryz.ntmps175
  go_wp2_with fail
  refine((zu OK0) true (zu OKD)).mono ?_
  rintro e u ⟨rfl,b1⟩
  have R2:=zh ((zu G0).2.below b1 (by omega))
  have WU:=zh ((zu G0).1.step b1)
  have us:=b1.size
  rw[s2] at us
  clear b1 G0 OK0 s2
  have c0:=(zu WU).c0
  have c1:=(zu WU).c1
  have lt:=(zu WU).lt
  go_wp2_with fail
  refine((zu N_nm) _ true (zu NK)).mono ?_
  rintro e u ⟨rfl,rfl⟩
  go_wp2_with fail
  refine((zu N_to) _ true (zu TK)).mono ?_
  rintro e u ⟨rfl,rfl⟩
  go_wp2_with fail
  refine(iTable _ x (zu WU).r (wf_names (zu OK))).mono ?_
  rintro e u1 ⟨rfl,tt,b2⟩
  have S1:=zh (show St w u1 x (u.heap.size+1) x.ps.length (tabOf x.ps) from⟨(zu WU).step b2,(zu R2).below b2 (zu R2).lt.2,tt,by omega,zu XA⟩)
  have us1:=b2.size
  clear tt b2 WU R2 c0 c1 lt
  have S2:=zh ((zu S1).step (one_more u1 (.cells #[.int .i64 0,.string ByteArray.empty,.string ByteArray.empty] 81)))
  have c0:=(zu S2).d.c0
  have c1:=(zu S2).d.c1
  have lt:=(zu S2).d.lt
  go_wp2_with (first|(at_lookup;refine wp_have _ rfl _ _ rfl (u.heap.size+1) _ _ rfl (zu S1).t nm rfl (zu WF) _ false (zu HP) (zu HI) ?_)|fail)
  refine(iCopied _ x (zu S2).d.r).mono ?_
  rintro e u9 ⟨y,hy0,hy,rfl,oy,b9⟩
  have R9:=zh ((zu S2).r.below b9 (zu S2).r.lt.2)
  have HY:=zh (show(y.room,y.ps)=(x.room,x.ps) by rw[hy0,hy])
  have sz9:=(zu S2).r.lt.2
  have EN:=zh (endedD ((zu S2).d.b.trans (b9.mono (zu S2).d.b.size)) (zu R9) oy (by omega))
  have f0:=(zu R9).free 0
  have f1:=(zu R9).free 1
  have r0:=(zu R9).c0
  have r1:=(zu R9).c1
  clear b9 oy hy0 hy c0 c1 lt
  go_wp2
  refine bodyPost_ret (v:= .tuple #[.agg #[.int .i64 y.room,.slice y.a y.ps.length y.c],.int .i64 2]) (by simp[results,Tryz.results175,go_sem,r0,r1]) rfl ?_
  rw[zu E]
  exact⟨y,zu HY,rfl,(zu EN).1,(zu EN).2⟩
 obtain⟨k,ek,kl,en⟩:=findF_in (ps:=x.ps) (nm:=nm) (by omega)
 have E:=zh (show moveD x.room x.ps nm to=((x.room,putF (lessN x.ps k x.ps.length) (to,(elF x.ps k).2.1,(elF x.ps k).2.2)),0) by unfold moveD;rw[if_pos ⟨tk,ne⟩,at_yes ok nk ek];rfl)
 generalize moveD x.room x.ps nm to=rr at *
 have ROW:=tl_less (zu TL) kl
 rw[en] at ROW
 have ROW:=zh (tl_row (tl_put ROW (to,(elF x.ps k).2.1,(elF x.ps k).2.2) (Pure14.ok_named.1 tk)))
 have FY:=tl_yes (zu TL) kl en
 have SZ:=zh (el_size hz kl)
 have HP:=zh (show(tabOf x.ps nm).getD z0=((elF x.ps k).1,(elF x.ps k).2.1,(elF x.ps k).2.2) by rw[FY];rfl)
 have HI:=zh (show(tabOf x.ps nm).isSome=true by rw[FY];rfl)
 clear ok nk q FY ek en TL tk ne
 generalize (elF x.ps k).1=p0 at *
 generalize (elF x.ps k).2.1=p1 at *
 generalize (elF x.ps k).2.2=p2 at *
 clear kl
 go_enter Tryz.func175,Tryz.ntmps175
 go_wp2_with fail
 refine((zu OK0) true (zu OKD)).mono ?_
 rintro e u ⟨rfl,b1⟩
 have R2:=zh ((zu G0).2.below b1 (by omega))
 have WU:=zh ((zu G0).1.step b1)
 have us:=b1.size
 rw[s2] at us
 clear b1 G0 OK0 s2
 have c0:=(zu WU).c0
 have c1:=(zu WU).c1
 have lt:=(zu WU).lt
 go_wp2_with fail
 refine((zu N_nm) _ true (zu NK)).mono ?_
 rintro e u ⟨rfl,rfl⟩
 go_wp2_with fail
 refine((zu N_to) _ true (zu TK)).mono ?_
 rintro e u ⟨rfl,rfl⟩
 go_wp2_with fail
 refine(iTable _ x (zu WU).r (wf_names (zu OK))).mono ?_
 rintro e u1 ⟨rfl,tt,b2⟩
 have S1:=zh (show St w u1 x (u.heap.size+1) x.ps.length (tabOf x.ps) from⟨(zu WU).step b2,(zu R2).below b2 (zu R2).lt.2,tt,by omega,zu XA⟩)
 have us1:=b2.size
 clear tt b2 WU R2 c0 c1 lt
 have S2:=zh ((zu S1).step (one_more u1 (.cells #[.int .i64 p0,.string p1,.string p2] 81)))
 have Q1:=zh (show(u1.alloc (.cells #[.int .i64 p0,.string p1,.string p2] 81)).cell? ⟨u1.heap.size,1,none⟩=some (.string p1) by simp[go_sem])
 have Q2:=zh (show(u1.alloc (.cells #[.int .i64 p0,.string p1,.string p2] 81)).cell? ⟨u1.heap.size,2,none⟩=some (.string p2) by simp[go_sem])
 have c0:=(zu S2).d.c0
 have c1:=(zu S2).d.c1
 have lt:=(zu S2).d.lt
 go_wp2_with (first|(at_lookup;refine wp_have _ rfl _ _ rfl (u.heap.size+1) _ _ rfl (zu S1).t nm rfl (zu WF) _ true (zu HP) (zu HI) ?_)|(at_delete;refine wp_del _ rfl _ _ rfl (u.heap.size+1) _ _ rfl (zu S2).t nm rfl (zu WF) ?_;intro u3 t3 g3;have S3:=zh ((zu S2).turn t3 g3);have bl:=(zu S1).t.lt;have q1:=(kcell (G:=u.heap.size+1) g3 1 (show u1.heap.size<(u1.alloc (.cells #[.int .i64 p0,.string p1,.string p2] 81)).heap.size by simp) (by omega)).trans (zu Q1);have q2:=(kcell (G:=u.heap.size+1) g3 2 (show u1.heap.size<(u1.alloc (.cells #[.int .i64 p0,.string p1,.string p2] 81)).heap.size by simp) (by omega)).trans (zu Q2);clear t3 g3 c0 c1 lt;have c0:=(zu S3).d.c0;have c1:=(zu S3).d.c1;have lt:=(zu S3).d.lt)|(at_mapUpdate;refine wp_put _ rfl _ _ _ rfl (u.heap.size+1) _ _ rfl (zu S3).t h20 to (to,p1,p2) rfl rfl (zu WT) ?_;intro u4 t4 g4;have S4:=zh ((zu S3).turn t4 g4);clear t4 g4 c0 c1 lt;have c0:=(zu S4).d.c0;have c1:=(zu S4).d.c1;have lt:=(zu S4).d.lt)|fail)
 refine(iDisk _ (u.heap.size+1) _ _ x.room (zu S4).t).mono ?_
 rintro e u9 ⟨y,hy0,hy,rfl,oy,b9⟩
 have R9:=zh ((zu S4).r.below b9 (zu S4).r.lt.2)
 have HY:=zh (show(y.room,y.ps)=(x.room,putF (lessN x.ps k x.ps.length) (to,p1,p2)) by rw[hy0,hy,zu ROW])
 have sz9:=(zu S4).r.lt.2
 have EN:=zh (endedD ((zu S4).d.b.trans (b9.mono (zu S4).d.b.size)) (zu R9) oy (by omega))
 have f0:=(zu R9).free 0
 have f1:=(zu R9).free 1
 have r0:=(zu R9).c0
 have r1:=(zu R9).c1
 clear b9 oy hy0 hy c0 c1 lt
 go_wp2
 refine bodyPost_ret (v:= .tuple #[.agg #[.int .i64 y.room,.slice y.a y.ps.length y.c],.int .i64 0]) (by simp[results,Tryz.results175,go_sem,r0,r1]) rfl ?_
 rw[zu E]
 exact⟨y,zu HY,rfl,(zu EN).1,(zu EN).2⟩
end IMove14
namespace IDrop14
open Fil14 OpensF14 DiskH14 DkH14 SDk14 SOk14 SRd14 App14 SLess14 SCopy14 SRef14 SCom14 SPut14 SDrop14 TabF14 PTab14 IFile14 ITb14 ICp14 IDk14 ICom14
theorem iDiskDrop(w:World)(x:Dx)(nm:Int)(hr:RdD w x)(hz:sumZ x.ps≤1048576):Calls Tryz.prog 172 #[.agg #[.int .i64 x.room,.slice x.a x.ps.length x.c],.int .i64 nm] w (ToldD (dropD x.room x.ps nm) w):=by
 have G0:=zh (begunD hr)
 have s2:((w.alloc (.cells #[.int .i64 x.room,.slice x.a x.ps.length x.c] 37)).alloc (.cells #[.int .i64 0,.slice none 0 0] 37)).heap.size=w.heap.size+2:=by simp
 have OK0:=zh (fun b h=>iOkB _ x b (zu G0).1.r hz h)
 have N_nm:=zh (fun u b h=>iNameB u nm b h)
 have XA:=zh (fun g e=>(hr.r g e).1)
 have h20:=hr.n
 clear hr
 by_cases ok:OkD x.room x.ps
 case neg=>
  have E:=zh (show dropD x.room x.ps nm=((0,[]),1) by unfold dropD;rw[at_bad (fun h=>ok h.1)];rfl)
  generalize dropD x.room x.ps nm=rr at *
  have OKD:=zh (decide_eq_false ok)
  clear ok
  go_enter Tryz.func172,Tryz.ntmps172
  go_wp2_with fail
  refine((zu OK0) false (zu OKD)).mono ?_
  rintro e u ⟨rfl,b1⟩
  have R2:=zh ((zu G0).2.below b1 (by omega))
  have WU:=zh ((zu G0).1.step b1)
  have us:=b1.size
  rw[s2] at us
  clear b1 G0 OK0 s2
  have c0:=(zu WU).c0
  have c1:=(zu WU).c1
  have lt:=(zu WU).lt
  have EN:=zh (endedD (y:=⟨0,none,0,[]⟩) (base0:=w.heap.size+2) (zu WU).b (zu R2) ⟨rfl,.inl ⟨rfl,rfl⟩⟩ (by omega))
  have f0:=(zu R2).free 0
  have f1:=(zu R2).free 1
  have r0:=(zu R2).c0
  have r1:=(zu R2).c1
  clear c0 c1 lt
  go_wp2
  refine bodyPost_ret (v:= .tuple #[.agg #[.int .i64 0,.slice none 0 0],.int .i64 1]) (by simp[results,Tryz.results172,go_sem,r0,r1]) rfl ?_
  rw[zu E]
  exact⟨⟨0,none,0,[]⟩,rfl,rfl,(zu EN).1,(zu EN).2⟩
 have OKD:=zh (decide_eq_true ok)
 have OK:=zh ok
 by_cases nk:okN nm=true
 case neg=>
  have E:=zh (show dropD x.room x.ps nm=((0,[]),1) by unfold dropD;rw[at_bad (fun h=>nk h.2)];rfl)
  generalize dropD x.room x.ps nm=rr at *
  have NK:=zh (show okN nm=false by simpa using nk)
  clear ok nk
  go_enter Tryz.func172,Tryz.ntmps172
  go_wp2_with fail
  refine((zu OK0) true (zu OKD)).mono ?_
  rintro e u ⟨rfl,b1⟩
  have R2:=zh ((zu G0).2.below b1 (by omega))
  have WU:=zh ((zu G0).1.step b1)
  have us:=b1.size
  rw[s2] at us
  clear b1 G0 OK0 s2
  have c0:=(zu WU).c0
  have c1:=(zu WU).c1
  have lt:=(zu WU).lt
  go_wp2_with fail
  refine((zu N_nm) _ false (zu NK)).mono ?_
  rintro e u ⟨rfl,rfl⟩
  have EN:=zh (endedD (y:=⟨0,none,0,[]⟩) (base0:=w.heap.size+2) (zu WU).b (zu R2) ⟨rfl,.inl ⟨rfl,rfl⟩⟩ (by omega))
  have f0:=(zu R2).free 0
  have f1:=(zu R2).free 1
  have r0:=(zu R2).c0
  have r1:=(zu R2).c1
  clear c0 c1 lt
  go_wp2
  refine bodyPost_ret (v:= .tuple #[.agg #[.int .i64 0,.slice none 0 0],.int .i64 1]) (by simp[results,Tryz.results172,go_sem,r0,r1]) rfl ?_
  rw[zu E]
  exact⟨⟨0,none,0,[]⟩,rfl,rfl,(zu EN).1,(zu EN).2⟩
 have NK:=zh nk
 have WF:=zh (wf_ok nk)
 have TL:=zh (tl_ok ok)
 by_cases q:findF x.ps nm<0
 case pos=>
  have E:=zh (show dropD x.room x.ps nm=((x.room,x.ps),2) by unfold dropD;rw[at_none ok nk q];rfl)
  generalize dropD x.room x.ps nm=rr at *
  have FN:=tl_no (zu TL) q
  have HP:=zh (show(tabOf x.ps nm).getD z0=(0,ByteArray.empty,ByteArray.empty) by rw[FN];rfl)
  have HI:=zh (show(tabOf x.ps nm).isSome=false by rw[FN];rfl)
  clear ok nk q FN
  go_enter Tryz.func172,Tryz.ntmps172
  go_wp2_with fail
  refine((zu OK0) true (zu OKD)).mono ?_
  rintro e u ⟨rfl,b1⟩
  have R2:=zh ((zu G0).2.below b1 (by omega))
  have WU:=zh ((zu G0).1.step b1)
  have us:=b1.size
  rw[s2] at us
  clear b1 G0 OK0 s2
  have c0:=(zu WU).c0
  have c1:=(zu WU).c1
  have lt:=(zu WU).lt
  go_wp2_with fail
  refine((zu N_nm) _ true (zu NK)).mono ?_
  rintro e u ⟨rfl,rfl⟩
  go_wp2_with fail
  refine(iTable _ x (zu WU).r (wf_names (zu OK))).mono ?_
  rintro e u1 ⟨rfl,tt,b2⟩
  have S1:=zh (show St w u1 x (u.heap.size+1) x.ps.length (tabOf x.ps) from⟨(zu WU).step b2,(zu R2).below b2 (zu R2).lt.2,tt,by omega,zu XA⟩)
  have us1:=b2.size
  clear tt b2 WU R2 c0 c1 lt
  have S2:=zh ((zu S1).step (one_more u1 (.cells #[.int .i64 0,.string ByteArray.empty,.string ByteArray.empty] 81)))
  have c0:=(zu S2).d.c0
  have c1:=(zu S2).d.c1
  have lt:=(zu S2).d.lt
  go_wp2_with (first|(at_lookup;refine wp_have _ rfl _ _ rfl (u.heap.size+1) _ _ rfl (zu S1).t nm rfl (zu WF) _ false (zu HP) (zu HI) ?_)|fail)
  refine(iCopied _ x (zu S2).d.r).mono ?_
  rintro e u9 ⟨y,hy0,hy,rfl,oy,b9⟩
  have R9:=zh ((zu S2).r.below b9 (zu S2).r.lt.2)
  have HY:=zh (show(y.room,y.ps)=(x.room,x.ps) by rw[hy0,hy])
  have sz9:=(zu S2).r.lt.2
  have EN:=zh (endedD ((zu S2).d.b.trans (b9.mono (zu S2).d.b.size)) (zu R9) oy (by omega))
  have f0:=(zu R9).free 0
  have f1:=(zu R9).free 1
  have r0:=(zu R9).c0
  have r1:=(zu R9).c1
  clear b9 oy hy0 hy c0 c1 lt
  go_wp2
  refine bodyPost_ret (v:= .tuple #[.agg #[.int .i64 y.room,.slice y.a y.ps.length y.c],.int .i64 2]) (by simp[results,Tryz.results172,go_sem,r0,r1]) rfl ?_
  rw[zu E]
  exact⟨y,zu HY,rfl,(zu EN).1,(zu EN).2⟩
 obtain⟨k,ek,kl,en⟩:=findF_in (ps:=x.ps) (nm:=nm) (by omega)
 have E:=zh (show dropD x.room x.ps nm=((x.room,lessN x.ps k x.ps.length),0) by unfold dropD;rw[at_yes ok nk ek];rfl)
 generalize dropD x.room x.ps nm=rr at *
 have ROW:=tl_row (tl_less (zu TL) kl)
 rw[en] at ROW
 have ROW:=zh ROW
 have FY:=tl_yes (zu TL) kl en
 have SZ:=zh (el_size hz kl)
 have HP:=zh (show(tabOf x.ps nm).getD z0=((elF x.ps k).1,(elF x.ps k).2.1,(elF x.ps k).2.2) by rw[FY];rfl)
 have HI:=zh (show(tabOf x.ps nm).isSome=true by rw[FY];rfl)
 clear ok nk q FY ek en TL
 generalize (elF x.ps k).1=p0 at *
 generalize (elF x.ps k).2.1=p1 at *
 generalize (elF x.ps k).2.2=p2 at *
 clear kl
 go_enter Tryz.func172,Tryz.ntmps172
 go_wp2_with fail
 refine((zu OK0) true (zu OKD)).mono ?_
 rintro e u ⟨rfl,b1⟩
 have R2:=zh ((zu G0).2.below b1 (by omega))
 have WU:=zh ((zu G0).1.step b1)
 have us:=b1.size
 rw[s2] at us
 clear b1 G0 OK0 s2
 have c0:=(zu WU).c0
 have c1:=(zu WU).c1
 have lt:=(zu WU).lt
 go_wp2_with fail
 refine((zu N_nm) _ true (zu NK)).mono ?_
 rintro e u ⟨rfl,rfl⟩
 go_wp2_with fail
 refine(iTable _ x (zu WU).r (wf_names (zu OK))).mono ?_
 rintro e u1 ⟨rfl,tt,b2⟩
 have S1:=zh (show St w u1 x (u.heap.size+1) x.ps.length (tabOf x.ps) from⟨(zu WU).step b2,(zu R2).below b2 (zu R2).lt.2,tt,by omega,zu XA⟩)
 have us1:=b2.size
 clear tt b2 WU R2 c0 c1 lt
 have S2:=zh ((zu S1).step (one_more u1 (.cells #[.int .i64 p0,.string p1,.string p2] 81)))
 have c0:=(zu S2).d.c0
 have c1:=(zu S2).d.c1
 have lt:=(zu S2).d.lt
 go_wp2_with (first|(at_lookup;refine wp_have _ rfl _ _ rfl (u.heap.size+1) _ _ rfl (zu S1).t nm rfl (zu WF) _ true (zu HP) (zu HI) ?_)|(at_delete;refine wp_del _ rfl _ _ rfl (u.heap.size+1) _ _ rfl (zu S2).t nm rfl (zu WF) ?_;intro u3 t3 g3;have S3:=zh ((zu S2).turn t3 g3);clear t3 g3 c0 c1 lt;have c0:=(zu S3).d.c0;have c1:=(zu S3).d.c1;have lt:=(zu S3).d.lt)|fail)
 refine(iDisk _ (u.heap.size+1) _ _ x.room (zu S3).t).mono ?_
 rintro e u9 ⟨y,hy0,hy,rfl,oy,b9⟩
 have R9:=zh ((zu S3).r.below b9 (zu S3).r.lt.2)
 have HY:=zh (show(y.room,y.ps)=(x.room,lessN x.ps k x.ps.length) by rw[hy0,hy,zu ROW])
 have sz9:=(zu S3).r.lt.2
 have EN:=zh (endedD ((zu S3).d.b.trans (b9.mono (zu S3).d.b.size)) (zu R9) oy (by omega))
 have f0:=(zu R9).free 0
 have f1:=(zu R9).free 1
 have r0:=(zu R9).c0
 have r1:=(zu R9).c1
 clear b9 oy hy0 hy c0 c1 lt
 go_wp2
 refine bodyPost_ret (v:= .tuple #[.agg #[.int .i64 y.room,.slice y.a y.ps.length y.c],.int .i64 0]) (by simp[results,Tryz.results172,go_sem,r0,r1]) rfl ?_
 rw[zu E]
 exact⟨y,zu HY,rfl,(zu EN).1,(zu EN).2⟩
end IDrop14
namespace IClear15
open Fil14 OpensF14 DiskH14 DkH14 SDk14 SOk14 SRd14 SCom14 SegP15 SClear15 Pure14 TabF14 PTab14 ITb14 ICp14 IDk14 ICom14
def clrN(ps:List TF)(ks:List Int)(k:Int):List TF:=ps.filter (fun p=> !decide (0≤p.1∧p.1<k)||ks.contains p.1)
theorem clr_zero(ps:List TF)(ks:List Int):clrN ps ks 0=ps:=by
 unfold clrN
 rw[List.filter_eq_self]
 intro p _
 have:decide (0≤p.1∧p.1<0)=false:=decide_eq_false (by omega)
 rw[this]
 rfl
theorem clr_all(ps:List TF)(ks:List Int):clrN ps ks 20=ps.filter (stays ks):=by
 unfold clrN
 congr 1
 funext p
 unfold stays okS
 have:decide (0≤p.1∧p.1<20)=decide (0≤p.1∧p.1≤19):=decide_eq_decide.2 (by omega)
 rw[this]
theorem clr_tl{f:Int→Option TF}{ps:List TF}(ks:List Int){k k':Int}(h:Tl f (clrN ps ks k))(g:Int→Option TF)(hf:∀j q,g j=some q↔q∈clrN ps ks k'∧q.1=j)(ha:Asc ps)(hn:Named ps):Tl g (clrN ps ks k'):=
 ⟨List.Pairwise.filter _ ha,fun p hp=>hn p (List.mem_filter.1 hp).1,hf⟩
theorem clr_next{f:Int→Option TF}{ps:List TF}{ks:List Int}{k:Int}(ha:Asc ps)(hn:Named ps)(hk:0≤k)(h:Tl f (clrN ps ks k))(b:ks.contains k=false):Tl (upd f k none) (clrN ps ks (k+1)):=by
 refine clr_tl ks h _ (fun j q=>?_) ha hn
 unfold upd
 by_cases e:j=k
 ·rw[if_pos e]
  refine⟨fun q=>by simp at q,fun⟨m,e2⟩=>?_⟩
  have m2:=(List.mem_filter.1 m).2
  have e3:q.1=k:=e2.trans e
  simp only[e3,b] at m2
  have:decide (0≤k∧k<k+1)=true:=decide_eq_true (by omega)
  rw[this] at m2
  simp at m2
 ·rw[if_neg e,h.iff]
  unfold clrN
  rw[List.mem_filter,List.mem_filter]
  constructor
  ·rintro⟨⟨m,t⟩,e2⟩
   refine⟨⟨m,?_⟩,e2⟩
   rw[show decide (0≤q.1∧q.1<k+1)=decide (0≤q.1∧q.1<k) from decide_eq_decide.2 (by omega)]
   exact t
  ·rintro⟨⟨m,t⟩,e2⟩
   refine⟨⟨m,?_⟩,e2⟩
   rw[show decide (0≤q.1∧q.1<k)=decide (0≤q.1∧q.1<k+1) from decide_eq_decide.2 (by omega)]
   exact t
theorem clr_keep{f:Int→Option TF}{ps:List TF}{ks:List Int}{k:Int}(ha:Asc ps)(hn:Named ps)(h:Tl f (clrN ps ks k))(b:ks.contains k=true):Tl f (clrN ps ks (k+1)):=by
 have e:clrN ps ks (k+1)=clrN ps ks k:=by
  unfold clrN
  congr 1
  funext p
  by_cases e:p.1=k
  ·rw[e,b]
   simp
  ·rw[show decide (0≤p.1∧p.1<k+1)=decide (0≤p.1∧p.1<k) from decide_eq_decide.2 (by omega)]
 rw[e]
 exact h
theorem iIndexI(w:World)(g n cap:Nat)(xs:List Int)(x:Int)(b:Bool)(hl:xs.length=n)(h20:n≤1048576)(h:Ints.At w g xs)(hb:xs.contains x=b):
  Calls Tryz.prog 235 #[.slice (some ⟨g,0,none⟩) n cap,.int .i64 x] w fun e w'=>∃r:Int,decide (r≥0)=b∧e= .returned (.int .i64 r)∧w'=w:=by
 have IFF:∀k,k<n→xs.getD k 0=x→b=true:=fun k hk e=>by
  rw[←hb,List.contains_iff_mem,←e]
  have:k<xs.length:=by omega
  simp only[List.getD,List.getElem?_eq_getElem this,Option.getD_some]
  exact List.getElem_mem this
 have NO:(∀k,k<n→xs.getD k 0≠x)→b=false:=fun q=>by
  rw[←hb]
  cases e:xs.contains x with
  |false=>rfl
  |true=>
   rw[List.contains_iff_mem] at e
   obtain⟨i,hi,e⟩:=List.getElem_of_mem e
   exact absurd (by simp[List.getD,hi,e]) (q i (by omega))
 have HI:=zh IFF
 have HN:=zh NO
 have HA:=zh h
 clear IFF NO h hb
 go_enter Tryz.func235,Tryz.ntmps235
 go_wp2
 go_loop [8] (fun j=>∃(k:Nat),k≤n∧j= .int .i64 k∧Hid (∀i,i<k→xs.getD i 0≠x)) (fun j=>n-(intOf j).toNat)
 case atStart=>exact⟨0,by omega,rfl,zh (fun i hi=>by omega)⟩
 case round=>
  obtain⟨k,hk,rfl,HG⟩:=hrel
  by_cases t:k<n
  ·have e1:=(zu HA) k (by omega)
   have YES:=zh ((zu HI) k t)
   have GO:=zh (show xs.getD k 0≠x→∀i,i<k+1→xs.getD i 0≠x from fun hn i hi=>by
    by_cases e:i=k
    ·subst e;exact hn
    ·exact(zu HG) i (by omega))
   generalize xs.getD k 0=y at *
   by_cases c1:y=x
   ·obtain rfl:b=true:=(zu YES) c1
    clear YES GO
    subst c1
    go_wp2
    go_ret
    exact⟨k,by first|(exact decide_eq_true (by omega))|(simp;done)|omega,rfl,rfl⟩
   ·have G:=zh ((zu GO) c1)
    have c1b:(x==y)=false:=by simpa using fun e=>c1 e.symm
    clear YES GO
    go_wp2
    go_round
    case rel=>exact⟨k+1,by omega,by go_num,G⟩
    case measure=>simp[intOf];omega
  ·obtain rfl:k=n:=by omega
   obtain rfl:b=false:=(zu HN) (zu HG)
   go_wp2
   go_ret
   exact⟨-1,by decide,rfl,rfl⟩
theorem iContains(w:World)(g n cap:Nat)(xs:List Int)(x:Int)(b:Bool)(hl:xs.length=n)(h20:n≤1048576)(h:Ints.At w g xs)(hb:xs.contains x=b):
  Calls Tryz.prog 207 #[.slice (some ⟨g,0,none⟩) n cap,.int .i64 x] w fun e w'=>e= .returned (.bool b)∧w'=w:=by
 have IX:=zh (fun u=>iIndexI u g n cap xs x b hl h20)
 have HA:=zh h
 have HB:=zh hb
 clear h hb hl
 go_enter Tryz.func207,Tryz.ntmps207
 go_wp2_with fail
 refine(zu IX _ (zu HA) (zu HB)).mono ?_
 rintro e u ⟨r,hr,rfl,rfl⟩
 go_wp2
 go_ret
 exact⟨by rw[←hr];rfl,rfl⟩
end IClear15
namespace IClear16
open Fil14 OpensF14 DiskH14 DkH14 SDk14 SOk14 SRd14 SCom14 SegP15 SClear15 Pure14 TabF14 PTab14 ITb14 ICp14 IDk14 ICom14 IClear15
def KR(B:Nat)(w:World)(a:Option Addr)(ks:List Int):Prop:=ks=[]∨∃g,a=some ⟨g,0,none⟩∧g<B∧Ints.At w g ks
theorem kr_of{w:World}{a:Option Addr}{ks:List Int}(h:VOI.Rd w a ks):KR w.heap.size w a ks:=h
theorem KR.mono{B B':Nat}{w:World}{a:Option Addr}{ks:List Int}(h:KR B w a ks)(k:B≤B'):KR B' w a ks:=by
 rcases h with h|⟨g,e,l,h⟩
 ·exact .inl h
 ·exact .inr ⟨g,e,by omega,h⟩
theorem KR.below{B B':Nat}{w w':World}{a:Option Addr}{ks:List Int}(h:KR B w a ks)(b:Below B' w w')(k:B≤B'):KR B w' a ks:=by
 rcases h with h|⟨g,e,l,h⟩
 ·exact .inl h
 ·exact .inr ⟨g,e,l,fun i hi=>(b.cell (p:=⟨g,i,none⟩) (by show g<B';omega)).trans (h i hi)⟩
theorem KR.kept{B:Nat}{w w':World}{a:Option Addr}{ks:List Int}(h:KR B w a ks)(k:w.grownBy w' (some B))(hB:B≤w.heap.size):KR B w' a ks:=by
 rcases h with h|⟨g,e,l,h⟩
 ·exact .inl h
 ·exact .inr ⟨g,e,l,fun i hi=>(App14.kcell k i (by omega) (by omega)).trans (h i hi)⟩
theorem iIndexN(w:World)(a:Option Addr)(cap:Nat)(x:Int):
  Calls Tryz.prog 235 #[.slice a 0 cap,.int .i64 x] w fun e w'=>e= .returned (.int .i64 (-1))∧w'=w:=by
 go_enter Tryz.func235,Tryz.ntmps235
 go_wp2
 go_loop [8] (fun j=>j= .int .i64 0) (fun _=>0)
 case atStart=>rfl
 case round=>
  subst hrel
  go_wp2
  go_ret
  exact⟨rfl,rfl⟩
theorem iContainsO(w:World)(B:Nat)(a:Option Addr)(n cap:Nat)(xs:List Int)(x:Int)(b:Bool)(hl:xs.length=n)(h20:n≤1048576)(h:KR B w a xs)(hb:xs.contains x=b):
  Calls Tryz.prog 207 #[.slice a n cap,.int .i64 x] w fun e w'=>e= .returned (.bool b)∧w'=w:=by
 rcases h with rfl|⟨g,rfl,_,h⟩
 ·obtain rfl:n=0:=by simpa using hl.symm
  obtain rfl:b=false:=by rw[←hb];rfl
  go_enter Tryz.func207,Tryz.ntmps207
  go_wp2_with fail
  refine(iIndexN _ a cap x).mono ?_
  rintro e u ⟨rfl,rfl⟩
  go_wp2
  go_ret
  exact⟨rfl,rfl⟩
 ·exact iContains w g n cap xs x b hl h20 h hb
theorem iSegsClearO(w:World)(x:Dx)(va:Option Addr)(ck:Nat)(ks:List Int)(hr:RdD w x)(hz:sumZ x.ps≤1048576)(hk20:ks.length≤1048576)(ha:VOI.Rd w va ks):
  Calls Tryz.prog 176 #[.agg #[.int .i64 x.room,.slice x.a x.ps.length x.c],.slice va ks.length ck] w fun e w'=>∃y:Dx,(y.room,y.ps)=clearD x.room x.ps ks∧e= .returned (.agg #[.int .i64 y.room,.slice y.a y.ps.length y.c])∧OwD w' w.heap.size y∧Below w.heap.size w w':=by
 have G0:=zh (begunD hr)
 have s2:((w.alloc (.cells #[.int .i64 x.room,.slice x.a x.ps.length x.c] 37)).alloc (.cells #[.int .i64 0,.slice none 0 0] 37)).heap.size=w.heap.size+2:=by simp
 have OK0:=zh (fun b h=>iOkB _ x b (zu G0).1.r hz h)
 have XA:=zh (fun g e=>(hr.r g e).1)
 have AK0:=zh (kr_of ha)
 have h20:=hr.n
 clear hr ha
 by_cases ok:OkD x.room x.ps
 case neg=>
  have E:=zh (show clearD x.room x.ps ks=(0,[]) by unfold clearD;rw[if_neg (fun h=>ok h.1)])
  generalize clearD x.room x.ps ks=rr at *
  have OKD:=zh (decide_eq_false ok)
  clear ok
  go_enter Tryz.func176,Tryz.ntmps176
  go_wp2_with fail
  refine((zu OK0) false (zu OKD)).mono ?_
  rintro e u ⟨rfl,b1⟩
  have R2:=zh ((zu G0).2.below b1 (by omega))
  have WU:=zh ((zu G0).1.step b1)
  have us:=b1.size
  rw[s2] at us
  clear b1 G0 OK0 s2
  have EN:=zh (endedD (y:=⟨0,none,0,[]⟩) (base0:=w.heap.size+2) (zu WU).b (zu R2) ⟨rfl,.inl ⟨rfl,rfl⟩⟩ (by omega))
  have f0:=(zu R2).free 0
  have f1:=(zu R2).free 1
  have r0:=(zu R2).c0
  have r1:=(zu R2).c1
  go_wp2
  refine bodyPost_ret (v:= .agg #[.int .i64 0,.slice none 0 0]) (by simp[results,Tryz.results176,go_sem,r0,r1]) rfl ?_
  rw[zu E]
  exact⟨⟨0,none,0,[]⟩,rfl,rfl,(zu EN).1,(zu EN).2⟩
 have OKD:=zh (decide_eq_true ok)
 have OK:=zh ok
 by_cases hk:ks.length≤20
 case neg=>
  have E:=zh (show clearD x.room x.ps ks=(0,[]) by unfold clearD;rw[if_neg (fun h=>hk h.2)])
  have kd:(ks.length:Int)>20:=by omega
  generalize clearD x.room x.ps ks=rr at *
  clear ok hk
  go_enter Tryz.func176,Tryz.ntmps176
  go_wp2_with fail
  refine((zu OK0) true (zu OKD)).mono ?_
  rintro e u ⟨rfl,b1⟩
  have R2:=zh ((zu G0).2.below b1 (by omega))
  have WU:=zh ((zu G0).1.step b1)
  have us:=b1.size
  rw[s2] at us
  clear b1 G0 OK0 s2
  have EN:=zh (endedD (y:=⟨0,none,0,[]⟩) (base0:=w.heap.size+2) (zu WU).b (zu R2) ⟨rfl,.inl ⟨rfl,rfl⟩⟩ (by omega))
  have f0:=(zu R2).free 0
  have f1:=(zu R2).free 1
  have r0:=(zu R2).c0
  have r1:=(zu R2).c1
  go_wp2
  refine bodyPost_ret (v:= .agg #[.int .i64 0,.slice none 0 0]) (by simp[results,Tryz.results176,go_sem,r0,r1]) rfl ?_
  rw[zu E]
  exact⟨⟨0,none,0,[]⟩,rfl,rfl,(zu EN).1,(zu EN).2⟩
 have E:=zh (show clearD x.room x.ps ks=(x.room,x.ps.filter (stays ks)) by unfold clearD;rw[if_pos ⟨ok,hk⟩])
 have AN:=zh (asc_of ok)
 have TL0:=zh (show Tl (tabOf x.ps) (clrN x.ps ks 0) by rw[clr_zero];exact tl_ok ok)
 have kd:¬(ks.length:Int)>20:=by omega
 generalize clearD x.room x.ps ks=rr at *
 clear ok hk
 go_enter Tryz.func176,Tryz.ntmps176
 go_wp2_with fail
 refine((zu OK0) true (zu OKD)).mono ?_
 rintro e u ⟨rfl,b1⟩
 have R2:=zh ((zu G0).2.below b1 (by omega))
 have AK1:=zh (show KR w.heap.size u va ks from((zu AK0).below (zu G0).1.b (Nat.le_refl _)).below b1 (by omega))
 have WU:=zh ((zu G0).1.step b1)
 have us:=b1.size
 rw[s2] at us
 clear b1 G0 OK0 s2 AK0
 have c0:=(zu WU).c0
 have c1:=(zu WU).c1
 have lt:=(zu WU).lt
 go_wp2_with fail
 refine(iTable _ x (zu WU).r (wf_names (zu OK))).mono ?_
 rintro e u1 ⟨rfl,tt,b2⟩
 have S1:=zh (show St w u1 x (u.heap.size+1) x.ps.length (tabOf x.ps) from⟨(zu WU).step b2,(zu R2).below b2 (zu R2).lt.2,tt,by omega,zu XA⟩)
 have AK2:=zh (show KR (u.heap.size+1) u1 va ks from(((zu AK1).below b2 (by omega)).mono (by omega)))
 have us1:=b2.size
 clear tt b2 WU R2 c0 c1 lt AK1
 have wB:w.heap.size+2≤u.heap.size+1:=by omega
 generalize u.heap.size+1=B at *
 clear us us1
 go_wp2
 go_loopw [18] (fun i wr=>∃(k:Nat) (f:Int→Option TF),k≤20∧i= .int .i64 k∧Hid (Tl f (clrN x.ps ks k))∧Hid (St w wr x B x.ps.length f)∧Hid (KR B wr va ks)) (fun i _=>20-(intOf i).toNat)
 case atStart=>exact⟨0,tabOf x.ps,by omega,rfl,TL0,S1,AK2⟩
 case round=>
  clear S1 AK2 TL0
  obtain⟨k,f,hk,rfl,HL,HS,HA⟩:=hrel
  by_cases t:k<20
  ·have tb:(k:Int)<20:=by omega
   have gl:B≤wr.heap.size:=by have:=(zu HS).t.lt;omega
   have WF:=zh (wf_low (n:=(k:Int)) ⟨by omega,by omega⟩)
   obtain⟨b,hb⟩:∃b,ks.contains (k:Int)=b:=⟨_,rfl⟩
   have HB:=zh hb
   clear hb
   go_wp2_with fail
   refine(iContainsO wr B va ks.length ck ks k b rfl hk20 (zu HA) (zu HB)).mono ?_
   rintro e wr ⟨rfl,rfl⟩
   cases b with
   |true=>
    have HL9:=zh (clr_keep (zu AN).1 (zu AN).2 (zu HL) (zu HB))
    clear HL HB
    go_wp2
    go_roundw
    case rel=>exact⟨k+1,f,by omega,by go_num,HL9,HS,HA⟩
    case measure=>simp[intOf];omega
   |false=>
    have HL9:=zh (clr_next (zu AN).1 (zu AN).2 (by omega) (zu HL) (zu HB))
    clear HL HB
    go_wp2_with (first|(at_delete;refine wp_del _ rfl _ _ rfl B _ _ rfl (zu HS).t (k:Int) rfl (zu WF) ?_;intro u3 t3 g3;have S3:=zh ((zu HS).turn t3 g3);have A3:=zh ((zu HA).kept g3 gl);clear t3 g3 HS HA)|fail)
    go_roundw
    case rel=>exact⟨k+1,_,by omega,by go_num,HL9,S3,A3⟩
    case measure=>simp[intOf];omega
  ·have e:k=20:=by omega
   subst e
   have ROW:=zh (show rowF f=x.ps.filter (stays ks) by rw[tl_row (zu HL)];exact clr_all _ _)
   have c0:=(zu HS).d.c0
   have c1:=(zu HS).d.c1
   have lt:=(zu HS).d.lt
   clear HL t
   go_wp2_with fail
   refine(iDisk _ B _ _ x.room (zu HS).t).mono ?_
   rintro e u9 ⟨y,hy0,hy,rfl,oy,b9⟩
   have R9:=zh ((zu HS).r.below b9 (zu HS).r.lt.2)
   have HY:=zh (show(y.room,y.ps)=(x.room,x.ps.filter (stays ks)) by rw[hy0,hy,zu ROW])
   have sz9:=(zu HS).r.lt.2
   have EN:=zh (endedD ((zu HS).d.b.trans (b9.mono (zu HS).d.b.size)) (zu R9) oy (by omega))
   have f0:=(zu R9).free 0
   have f1:=(zu R9).free 1
   have r0:=(zu R9).c0
   have r1:=(zu R9).c1
   clear b9 oy hy0 hy c0 c1 lt
   go_wp2
   refine bodyPost_ret (v:= .agg #[.int .i64 y.room,.slice y.a y.ps.length y.c]) (by simp[results,Tryz.results176,go_sem,r0,r1]) rfl ?_
   rw[zu E]
   exact⟨y,zu HY,rfl,(zu EN).1,(zu EN).2⟩
end IClear16
namespace ICrash14
open Fil14 OpensF14 DiskH14 DkH14 SDk14 SOk14 SRd14 App14 SLess14 SCopy14 SRef14 SCom14 SCrash14 TabF14 PTab14 IFile14 ICp14 ICom14
def half(f:TF→TF)(ps:List TF)(k:Nat):List TF:=(ps.take k).map f++ps.drop k
theorem half_len(f:TF→TF)(ps:List TF)(k:Nat):(half f ps k).length=ps.length:=by
 unfold half
 simp
 omega
theorem half_el(f:TF→TF){ps:List TF}{k:Nat}(h:k<ps.length):elF (half f ps k) k=elF ps k:=by
 unfold half
 have:((ps.take k).map f).length=k:=by simp;omega
 simp only[List.getD]
 rw[List.getElem?_append_right (by omega),this,List.getElem?_drop]
 simp
theorem half_next(f:TF→TF){ps:List TF}{k:Nat}(h:k<ps.length):(half f ps k).set k (f (elF ps k))=half f ps (k+1):=by
 unfold half
 have hl:((ps.take k).map f).length=k:=by simp;omega
 rw[List.set_append_right _ _ (by omega),hl,Nat.sub_self,List.drop_eq_getElem_cons h,List.set_cons_zero,List.take_succ_eq_append_getElem h,List.map_append,List.append_assoc]
 simp[List.getD,h]
theorem mod3{L:List TF}{k:Nat}(h:k<L.length)(a:Int)(b c:ByteArray):((L.modify k fun p=>(a,p.2)).modify k fun p=>(p.1,b,p.2.2)).modify k (fun p=>(p.1,p.2.1,c))=L.set k (a,b,c):=by
 apply List.ext_getElem?
 intro i
 simp only[List.getElem?_modify,List.getElem?_set]
 by_cases e:k=i
 ·subst e
  simp[h]
 ·simp[e]
structure Cr(u W wr:World)(v:Value)(n:Nat)(L:List TF):Prop where
 gr:W.grownBy wr v.ownBlock
 ow:wr.ownsRow u.heap.size 81 3 v n (flatF L)
 ge:∀j,v.ownBlock=some j→u.heap.size≤j∧j+1<W.heap.size
theorem iDiskCrash(w:World)(x:Dx)(keep:Int)(hr:RdD w x)(hz:sumZ x.ps≤1048576):Calls Tryz.prog 63 #[.agg #[.int .i64 x.room,.slice x.a x.ps.length x.c],.int .i64 keep] w fun e w'=>∃y:Dx,(y.room,y.ps)=crashD x.room x.ps keep∧e= .returned (.agg #[.int .i64 y.room,.slice y.a y.ps.length y.c])∧OwD w' w.heap.size y∧Below w.heap.size w w':=by
 have G0:=zh (begunD hr)
 have s2:((w.alloc (.cells #[.int .i64 x.room,.slice x.a x.ps.length x.c] 37)).alloc (.cells #[.int .i64 0,.slice none 0 0] 37)).heap.size=w.heap.size+2:=by simp
 have OK0:=zh (fun b h=>iOkB _ x b (zu G0).1.r hz h)
 have h20:=hr.n
 clear hr
 by_cases ok:OkD x.room x.ps
 case neg=>
  have E:=zh (show crashD x.room x.ps keep=(0,[]) from if_neg ok)
  generalize crashD x.room x.ps keep=rr at *
  have OKD:=zh (decide_eq_false ok)
  clear ok
  go_enter Tryz.func63,Tryz.ntmps63
  go_wp2_with fail
  refine((zu OK0) false (zu OKD)).mono ?_
  rintro e u ⟨rfl,b1⟩
  have R2:=zh ((zu G0).2.below b1 (by omega))
  have EN:=zh (endedD (y:=⟨0,none,0,[]⟩) (base0:=w.heap.size+2) (((zu G0).1.step b1).b) (zu R2) ⟨rfl,.inl ⟨rfl,rfl⟩⟩ (by omega))
  have f0:=(zu R2).free 0
  have f1:=(zu R2).free 1
  have r0:=(zu R2).c0
  have r1:=(zu R2).c1
  clear b1
  go_wp2
  refine bodyPost_ret (v:= .agg #[.int .i64 0,.slice none 0 0]) (by simp[results,Tryz.results63,go_sem,r0,r1]) rfl ⟨⟨0,none,0,[]⟩,(zu E).symm,rfl,(zu EN).1,(zu EN).2⟩
 have E:=zh (show crashD x.room x.ps keep=(x.room,x.ps.map (crashF keep)) from if_pos ok)
 generalize crashD x.room x.ps keep=rr at *
 have OKD:=zh (decide_eq_true ok)
 clear ok
 go_enter Tryz.func63,Tryz.ntmps63
 go_wp2_with fail
 refine((zu OK0) true (zu OKD)).mono ?_
 rintro e u ⟨rfl,b1⟩
 have WU:=zh ((zu G0).1.step b1)
 have RU:=zh ((zu G0).2.below b1 (by omega))
 have us:=b1.size
 rw[s2] at us
 clear b1 G0 OK0 s2
 have c0:=(zu WU).c0
 have c1:=(zu WU).c1
 have lt:=(zu WU).lt
 go_wp2_with fail
 refine(iCopied u x (zu WU).r).mono ?_
 rintro e u1 ⟨y,hy0,hy,rfl,oy,b2⟩
 obtain⟨yroom,ya,yc,yps⟩:=y
 simp only at hy0 hy
 subst hy0 hy
 unfold OwD at oy
 simp only at oy
 generalize hn:x.ps.length=n at *
 have HN:=zh hn
 have bA:=one_more u1 (.cells #[.int .i64 x.room,.slice ya n yc] 37)
 have W1:=zh (((zu WU).step b2).step bA)
 have R1:=zh (((zu RU).below b2 (zu RU).lt.2).below bA (by have:=(zu RU).lt.2;have:=b2.size;omega))
 have C0:=zh (show Cr u (u1.alloc (.cells #[.int .i64 x.room,.slice ya n yc] 37)) (u1.alloc (.cells #[.int .i64 x.room,.slice ya n yc] 37)) (.slice ya n yc) n (half (crashF keep) x.ps 0) from⟨World.grownBy.refl _ _,row_step oy bA,fun j hj=>by have:=World.ownsRow.lt oy j hj;simp;omega⟩)
 have a0:(u1.alloc (.cells #[.int .i64 x.room,.slice ya n yc] 37)).cell? ⟨u1.heap.size,0,none⟩=some (.int .i64 x.room):=by simp[go_sem]
 have a1:(u1.alloc (.cells #[.int .i64 x.room,.slice ya n yc] 37)).cell? ⟨u1.heap.size,1,none⟩=some (.slice ya n yc):=by simp[go_sem]
 have s3:(u1.alloc (.cells #[.int .i64 x.room,.slice ya n yc] 37)).heap.size=u1.heap.size+1:=by simp
 have AW:=zh (And.intro a0 a1)
 have us1:=b2.size
 clear b2 bA oy hn WU RU a0 a1 c0 c1 lt
 go_wp2
 generalize u1.alloc (.cells #[.int .i64 x.room,.slice ya n yc] 37)=W at *
 go_loopw [18] (fun i wr=>∃(k:Nat),i= .int .i64 k∧k≤n∧Hid (Cr u W wr (.slice ya n yc) n (half (crashF keep) x.ps k))) (fun i _=>n-(intOf i).toNat)
 case atStart=>exact⟨0,rfl,by omega,C0⟩
 case round=>
  clear C0
  obtain⟨k,rfl,hk,CR⟩:=hrel
  have gs:=(zu CR).gr.size
  have GE:=zh (zu CR).ge
  have k0:=zh ((World.cell?_of_block (w:=W) (a:=⟨u1.heap.size,0,none⟩) ((zu CR).gr.block u1.heap.size (by omega) (fun e=>by have:=(zu GE) _ e.symm;omega))).trans (zu AW).1)
  have k1:=zh ((World.cell?_of_block (w:=W) (a:=⟨u1.heap.size,1,none⟩) ((zu CR).gr.block u1.heap.size (by omega) (fun e=>by have:=(zu GE) _ e.symm;omega))).trans (zu AW).2)
  by_cases t:k<n
  ·have kt:(k:Int)<n:=by omega
   have tk:k<x.ps.length:=by rw[zu HN];exact t
   obtain⟨g,ea⟩:=(addr_of (zu CR).ow).1 (by omega)
   subst ea
   have gg:=(zu GE) g rfl
   have EL:=half_el (crashF keep) tk
   have NX:=zh (half_next (crashF keep) tk)
   have LL:=zh (show k<(half (crashF keep) x.ps k).length by rw[half_len];exact tk)
   obtain⟨e0,e1,e2⟩:=OwnF.at (zu CR).ow k (zu LL)
   rw[EL] at e0 e1 e2
   have IX:=ixF yc (rfl:(some ⟨g,0,none⟩:Option Addr)=some ⟨g,0,none⟩) t
   have SZ:=el_size hz tk
   obtain⟨km,hkm⟩:∃km,max keep 0=km:=⟨_,rfl⟩
   obtain⟨kn,hkn⟩:∃kn:Nat,min km ((elF x.ps k).2.2.size:Int)=kn:=⟨(min km ((elF x.ps k).2.2.size:Int)).toNat,by omega⟩
   have TE:crashF keep (elF x.ps k)=((elF x.ps k).1,(elF x.ps k).2.1++(elF x.ps k).2.2.extract 0 kn,ByteArray.empty):=by
    unfold crashF
    rw[hkm,hkn,Int.toNat_natCast]
   have kz:(kn:Int)≤((elF x.ps k).2.2.size:Int):=by omega
   rw[TE] at NX
   generalize half (crashF keep) x.ps k=L at *
   clear TE EL
   generalize (elF x.ps k).1=z0 at *
   generalize (elF x.ps k).2.1=z1 at *
   generalize (elF x.ps k).2.2=z2 at *
   have M1:∀ts t w,(Builtin.max_ ts t #[.int .i64 keep,.int .i64 0]).run Tryz.prog w= .ok (.int .i64 km) w:=fun ts t w=>by rw[←hkm];exact Lib.run_max_ints w ts t .i64 .i64 keep 0
   have M2:∀ts t w,(Builtin.min_ ts t #[.int .i64 km,.int .i64 z2.size]).run Tryz.prog w= .ok (.int .i64 kn) w:=fun ts t w=>by rw[←hkn];exact Lib.run_min_ints w ts t .i64 .i64 km z2.size
   have sx:z1.size+(z2.extract 0 kn).size≤9223372036854775807:=by
    have:(z2.extract 0 kn).size≤z2.size:=by simp;omega
    omega
   have sm:z1.size+min kn z2.size≤9223372036854775807:=by omega
   have bV:=zh (one_more wr (.cells #[.int .i64 z0,.string z1,.string z2] 81))
   have K8:(wr.alloc (.cells #[.int .i64 z0,.string z1,.string z2] 81)).cell? ⟨u1.heap.size,1,none⟩=some (.slice (some ⟨g,0,none⟩) n yc)∧(wr.alloc (.cells #[.int .i64 z0,.string z1,.string z2] 81)).cell? ⟨wr.heap.size,0,none⟩=some (.int .i64 z0)∧(wr.alloc (.cells #[.int .i64 z0,.string z1,.string z2] 81)).cell? ⟨wr.heap.size,1,none⟩=some (.string z1)∧(wr.alloc (.cells #[.int .i64 z0,.string z1,.string z2] 81)).cell? ⟨wr.heap.size,2,none⟩=some (.string z2):=⟨((zu bV).cell (p:=⟨u1.heap.size,1,none⟩) (by show u1.heap.size<wr.heap.size;omega)).trans (zu k1),by simp[go_sem],by simp[go_sem],by simp[go_sem]⟩
   have OV:=zh (row_step (zu CR).ow (zu bV))
   clear hkm hkn
   obtain⟨V,hV⟩:∃V,Hid (V=wr.alloc (.cells #[.int .i64 z0,.string z1,.string z2] 81)):=⟨_,rfl⟩
   have vL:=zh (show wr.heap.size<V.heap.size by rw[zu hV];simp)
   rw[←zu hV] at K8 bV OV
   have OD:=zh (show OwnF 81 V.drew u.heap.size g n yc L from zu OV)
   obtain⟨o1,g1⟩:=(zu OD).set0 k z0
   obtain⟨o2,g2⟩:=o1.set1 k (z1++z2.extract 0 kn)
   obtain⟨o3,g3⟩:=o2.set2 k ⟨#[]⟩
   have GG:=zh (grow_grow (grow_grow g1 g2) g3)
   rw[mod3 (zu LL),show(⟨#[]⟩:ByteArray)=ByteArray.empty from rfl,zu NX] at o3
   have OVF:=zh (show OwnF 81 V u.heap.size g n yc L from zu OV)
   have fr0:=(zu OVF).free (k*3)
   have fr1:=(zu OVF).free (k*3+1)
   have fr2:=(zu OVF).free (k*3+2)
   have q0:=((zu OVF).at k (zu LL)).1
   have q1:=((zu OVF).at k (zu LL)).2.1
   have q2:=((zu OVF).at k (zu LL)).2.2
   have vs:=(zu bV).size
   have K9:(((V.drew.setCell ⟨g,k*3,none⟩ (.int .i64 z0)).setCell ⟨g,k*3+1,none⟩ (.string (z1++z2.extract 0 kn))).setCell ⟨g,k*3+2,none⟩ (.string ⟨#[]⟩)).cell? ⟨u1.heap.size,1,none⟩=some (.slice (some ⟨g,0,none⟩) n yc)∧(((V.drew.setCell ⟨g,k*3,none⟩ (.int .i64 z0)).setCell ⟨g,k*3+1,none⟩ (.string (z1++z2.extract 0 kn))).setCell ⟨g,k*3+2,none⟩ (.string ⟨#[]⟩)).cell? ⟨wr.heap.size,0,none⟩=some (.int .i64 z0)∧(((V.drew.setCell ⟨g,k*3,none⟩ (.int .i64 z0)).setCell ⟨g,k*3+1,none⟩ (.string (z1++z2.extract 0 kn))).setCell ⟨g,k*3+2,none⟩ (.string ⟨#[]⟩)).cell? ⟨wr.heap.size,1,none⟩=some (.string z1)∧(((V.drew.setCell ⟨g,k*3,none⟩ (.int .i64 z0)).setCell ⟨g,k*3+1,none⟩ (.string (z1++z2.extract 0 kn))).setCell ⟨g,k*3+2,none⟩ (.string ⟨#[]⟩)).cell? ⟨wr.heap.size,2,none⟩=some (.string z2):=⟨(kcell (zu GG) 1 (show u1.heap.size<V.heap.size by omega) (by omega)).trans K8.1,(kcell (zu GG) 0 (zu vL) (by omega)).trans K8.2.1,(kcell (zu GG) 1 (zu vL) (by omega)).trans K8.2.2.1,(kcell (zu GG) 2 (zu vL) (by omega)).trans K8.2.2.2⟩
   have C9:=zh (show Cr u W (((V.drew.setCell ⟨g,k*3,none⟩ (.int .i64 z0)).setCell ⟨g,k*3+1,none⟩ (.string (z1++z2.extract 0 kn))).setCell ⟨g,k*3+2,none⟩ (.string ⟨#[]⟩)) (.slice (some ⟨g,0,none⟩) n yc) n (half (crashF keep) x.ps (k+1)) from⟨⟨(zu GG).os.trans ((zu bV).os.trans (zu CR).gr.os),(zu GG).tape.trans ((zu bV).tape.trans (zu CR).gr.tape),(zu GG).output.trans ((zu bV).output.trans (zu CR).gr.output),Nat.le_trans (zu CR).gr.size (Nat.le_trans (zu bV).size (zu GG).size),fun i hi hne=>((zu GG).block i (show i<V.heap.size by omega) hne).trans (((zu bV).block i (by omega)).trans ((zu CR).gr.block i hi hne))⟩,o3,zu GE⟩)
   clear o1 o2 o3 g1 g2 g3
   go_wp2_with fail
   rw[←zu hV]
   clear hV
   refine wp_region_held_drew (S:=(fun w'=>w'.cell? ⟨u1.heap.size,1,none⟩=some (.slice (some ⟨g,0,none⟩) n yc)∧w'.cell? ⟨wr.heap.size,0,none⟩=some (.int .i64 z0)∧w'.cell? ⟨wr.heap.size,1,none⟩=some (.string z1)∧w'.cell? ⟨wr.heap.size,2,none⟩=some (.string z2))) (by kernel_rfl) K8 (fun hHeld=>?_)
   refine zT 0 29 (.pointer (some ⟨u1.heap.size,1,none⟩)) rfl hHeld ?_
   refine zT 1 30 (.slice (some ⟨g,0,none⟩) n yc) rfl hHeld ?_
   refine zT 2 31 (.int .i64 k) rfl hHeld ?_
   refine zT 3 32 (.pointer (some ⟨wr.heap.size,0,none⟩)) rfl hHeld ?_
   refine zT 4 33 (.int .i64 z0) rfl hHeld ?_
   refine zT 5 34 (.pointer (some ⟨wr.heap.size,1,none⟩)) rfl hHeld ?_
   refine zT 6 35 (.string z1) rfl hHeld ?_
   refine zT 7 36 (.pointer (some ⟨wr.heap.size,2,none⟩)) rfl hHeld ?_
   refine zT 8 37 (.string z2) rfl hHeld ?_
   refine zT 9 38 (.int .i64 kn) rfl hHeld ?_
   refine zT 10 39 (.string (z2.extract 0 kn)) rfl hHeld ?_
   refine zT 11 40 (.string (z1++z2.extract 0 kn)) rfl hHeld ?_
   refine zT 12 41 (.agg #[.int .i64 z0,.string (z1++z2.extract 0 kn),.string ⟨#[]⟩]) rfl hHeld ?_
   refine zT 13 42 (.pointer (some ⟨g,k*3,none⟩)) rfl hHeld ?_
   try simp only[Act.put,zA,zB,zC]
   refine zR 14 rfl (fun K hK=>?_)
   go_simp
   refine hK.out _ _ K9 (fun hHeld=>?_)
   clear hK K
   try simp only[Act.put,zA,zB,zC]
   refine wpAnyH_done (by kernel_rfl) ?_ _
   clear K8 K9 q0 q1 q2 fr0 fr1 fr2
   go_wp2
   go_roundw
   case rel=>exact⟨k+1,by go_num,by omega,C9⟩
   case measure=>simp[intOf];omega
  ·have e:k=n:=by omega
   subst e
   have ck0:=zu k0
   have ck1:=zu k1
   have HL:=zh (show half (crashF keep) x.ps k=x.ps.map (crashF keep) by unfold half;rw[←zu HN];simp)
   have Rk:=zh ((zu R1).kept (zu CR).gr (fun e=>by have:=(zu GE) _ e.symm;omega))
   have BK:=zh (show Below w.heap.size w wr from⟨(zu CR).gr.os.trans (zu W1).b.os,(zu CR).gr.tape.trans (zu W1).b.tape,(zu CR).gr.output.trans (zu W1).b.output,Nat.le_trans (zu W1).b.size gs,fun i hi=>((zu CR).gr.block i (by omega) (fun e=>by have:=(zu GE) _ e.symm;omega)).trans ((zu W1).b.block i hi)⟩)
   have EN:=zh (endedD (y:=⟨x.room,ya,yc,x.ps.map (crashF keep)⟩) (base0:=u.heap.size) (zu BK) (zu Rk) (by unfold OwD;simp only[List.length_map,zu HN];rw[←zu HL];exact(zu CR).ow) (by omega))
   have f0:=(zu Rk).free 0
   have f1:=(zu Rk).free 1
   have r0:=(zu Rk).c0
   have r1:=(zu Rk).c1
   simp only[List.length_map,zu HN] at EN
   clear k0 k1
   go_wp2
   refine bodyPost_ret (v:= .agg #[.int .i64 x.room,.slice ya k yc]) (by simp[results,Tryz.results63,go_sem,r0,r1]) rfl ⟨⟨x.room,ya,yc,x.ps.map (crashF keep)⟩,(zu E).symm,by simp[zu HN],(zu EN).1,(zu EN).2⟩
end ICrash14
end Go.Proofs.YtppkkmaoaiopaaaGreat
