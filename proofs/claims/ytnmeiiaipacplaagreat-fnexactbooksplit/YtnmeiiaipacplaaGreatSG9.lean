/- Texts of one proof, one behind the other: HeldIt, HeldC, RoundT, HeldR, HeldI, LegsI, PayI, SplitI, SplitC, SplitTellI. -/
import Derived.Test.YtnmeiiaipacplaaGreatRows
import Derived.Test.YtnmeiiaipacplaaGreatSG1
import Derived.Test.YtnmeiiaipacplaaGreatSG2
import Derived.Test.YtnmeiiaipacplaaGreatSG3
import Derived.Test.YtnmeiiaipacplaaGreatSG4
import Derived.Test.YtnmeiiaipacplaaGreatSG5
import Derived.Test.YtnmeiiaipacplaaGreatSG6
import Derived.Test.YtnmeiiaipacplaaGreatSG7
import Derived.Test.YtnmeiiaipacplaaGreatSG8
import Derived.RangeFuncNested
import Derived.RangeFuncBound
import Derived.RangeFuncCalls
import Derived.RangeFuncLeaves
import Derived.Shelf.Abstract
import Derived.Shelf.RegionOpen
import Derived.WalkKit
import Derived.OwnWalkIn
import Derived.TacticsInMore
import Derived.LoopNIn
import Derived.LoopIn
import Derived.OrdersIn
import Derived.Deep.RegionHeld
set_option linter.unusedVariables false
set_option linter.unusedSimpArgs false
open Go.ChangeShapes Go.WideShapes Go.ChangeAt Go.RowKit
set_option maxRecDepth 100000
set_option maxHeartbeats 32000000
namespace Go.Proofs.YtnmeiiaipacplaaGreat
namespace HeldIt
open Go.Shelf BMem Bks ILists HeldP SHeld
open IBalsFit (one_more)
open Lots (Says says_of NoOk)
open Bals (T3 val Amt el3)
attribute [local go_sem] Oper.semAt_some
abbrev Som:={y:Int×Int//1≤y.2∧y.2≤1000000000000000}
def vals(ps:List Som):List (Int×Int):=ps.map Subtype.val
theorem vals_append(ps qs:List Som):vals (ps++qs)=vals ps++vals qs:=List.map_append
theorem vals_len(ps:List Som):(vals ps).length=ps.length:=List.length_map ..
def Kq(B p q:Nat)(W W':World):Prop:=Below B W W'∧W'.heap[p]?=W.heap[p]?∧W'.heap[q]?=W.heap[q]?
theorem Kq.trans{B p q:Nat}{W W' V:World}(h:Kq B p q W W')(k:Kq B p q W' V):Kq B p q W V:=⟨h.1.trans k.1,k.2.1.trans h.2.1,k.2.2.trans h.2.2⟩
structure It(w0:World)(x:Bx)(i:Int)(p q:Nat)(W:World):Prop where
 b:Below w0.heap.size w0 W
 c:Cl W p x
 n:W.cell? ⟨q,0,none⟩=some (.int .i64 i)
 lp:p<W.heap.size
 lq:q<W.heap.size
theorem It.step{w0:World}{x:Bx}{i:Int}{p q:Nat}{W W':World}(h:It w0 x i p q W)(k:Below W.heap.size W W'):It w0 x i p q W':=
 ⟨h.b.trans (k.mono h.b.size),h.c.below k h.lp,(k.cell (p:=⟨q,0,none⟩) h.lq).trans h.n,Nat.lt_of_lt_of_le h.lp k.size,Nat.lt_of_lt_of_le h.lq k.size⟩
theorem It.keep{w0:World}{x:Bx}{i:Int}{p q:Nat}{W W':World}(h:It w0 x i p q W)(k:Kq w0.heap.size p q W W'):It w0 x i p q W':=by
 have e:∀j,W'.cell? ⟨p,j,none⟩=W.cell? ⟨p,j,none⟩:=fun j=>World.cell?_of_block (a:=⟨p,j,none⟩) k.2.1
 exact⟨h.b.trans k.1,⟨(e 0).trans h.c.c0,(e 1).trans h.c.c1,(e 2).trans h.c.c2,(e 3).trans h.c.c3,(e 4).trans h.c.c4,(e 5).trans h.c.c5⟩,(World.cell?_of_block (a:=⟨q,0,none⟩) k.2.2).trans h.n,Nat.lt_of_lt_of_le h.lp k.1.size,Nat.lt_of_lt_of_le h.lq k.1.size⟩
theorem grown_none{W W':World}(k:Below W.heap.size W W'):W.grownBy W' none:=⟨k.os,k.tape,k.output,k.size,fun j hj _=>k.block j hj⟩
theorem all1(w0:World)(x:Bx)(i:Int)(p q n l:Nat)(J Jx:List Som→World→Prop)(hr:Rd w0 x)(ok:Ok x.b)
  (hY:∀pre y W,J pre W→pre.length<x.b.bs.length→YieldAt Fence.wide (n-1) Tryz.prog l #[.int .i64 y.1.1,.int .i64 y.1.2] W fun e W'=>
   (e= .returned (.bool true)∧J (pre++[y]) W'∧Kq w0.heap.size p q W W')∨(e= .returned (.bool false)∧Jx (pre++[y]) W'))
  (W:World)(hI:It w0 x i p q W)(hJ:AbidesFrom W.heap.size J)(h0:J [] W):
  CallsIn Fence.wide n Tryz.prog 158 #[.func (.yield l) #[] #[],.pointer (some ⟨p,0,none⟩),.pointer (some ⟨q,0,none⟩)] W fun e W'=>(∃v,e= .returned v)∧
   ((∃ys,vals ys=heldB x.b.ac i x.b.bs∧J ys W')∨(∃pre,vals pre<+:heldB x.b.ac i x.b.bs∧Jx pre W')):=by
 have OK:=zh ok
 have HR:=zh hr
 have HY:=zh hY
 have HJ:=zh (show ∀s A B,J s A→Below A.heap.size A B→J s B from fun s A B h k=>hJ s A B none h (grown_none k) (fun r e=>by cases e))
 have nb:=hr.nb
 have I0:=zh hI
 have c2:=hI.c.c2
 clear ok hr hY hJ hI
 refine callsIn_of_wp Tryz.func158 rfl trivial ?_ rfl
 simp only[Tryz.ntmps158,List.size_toArray,List.length_cons,List.length_nil,Nat.reduceAdd,Nat.reduceSub,Array.replicate_succ,Array.replicate_zero,List.push_toArray,List.append_toArray,List.nil_append,List.cons_append]
 gi_wp2
 clear c2
 gi_loopw [9] (fun v wr=>∃(k:Nat) (pre:List Som),k≤x.b.bs.length∧v= .int .i64 k∧Hid (vals pre=heldB x.b.ac i (x.b.bs.take k))∧J pre wr∧It w0 x i p q wr) (fun v _=>x.b.bs.length-(intOf v).toNat)
 case atStart=>exact⟨0,[],by omega,rfl,zh (by simp[vals,heldB]),h0,zu I0⟩
 case round=>
  obtain⟨k,pre,hk,rfl,hP,hJs,hS⟩:=hrel
  clear I0 h0
  by_cases t:k<x.b.bs.length
  ·obtain⟨d0,d1,d2⟩:=(((zu HR).below hS.b).rb k t)
   obtain⟨c0,c1,c2,c3,c4,c5⟩:=hS.c
   have cn:=hS.n
   have NX:=zh (heldB_next (ac:=x.b.ac) (i:=i) t)
   have IN:=zh (fun q hq=>heldB_in (zu OK) i t (q:=q) hq)
   have PL:=zh (show pre.length<x.b.bs.length from by
    have a:=vals_len pre
    have b:=heldB_len x.b.ac i (x.b.bs.take k)
    rw[←zu hP,a,List.length_take] at b
    omega)
   have S1:=zh (hS.step (one_more wr (.cells #[.int .i64 (el3 x.b.bs k).1,.int .i64 (el3 x.b.bs k).2.1,.int .i64 (el3 x.b.bs k).2.2] 119)))
   have J1:=zh ((zu HJ) _ _ _ hJs (one_more wr (.cells #[.int .i64 (el3 x.b.bs k).1,.int .i64 (el3 x.b.bs k).2.1,.int .i64 (el3 x.b.bs k).2.2] 119)))
   have PK:=zh (show pick x.b.ac i (el3 x.b.bs k)=if(el3 x.b.bs k).2.1=i∧kindOf x.b.ac (el3 x.b.bs k).1=1 then[((el3 x.b.bs k).1,(el3 x.b.bs k).2.2)] else[] from rfl)
   generalize pick x.b.ac i (el3 x.b.bs k)=PQ at *
   generalize (el3 x.b.bs k).1=y0 at *
   generalize (el3 x.b.bs k).2.1=y1 at *
   generalize (el3 x.b.bs k).2.2=y2 at *
   have zw:=hS.lp
   have zq:=hS.lq
   clear hS hJs
   obtain⟨b2,h2⟩:=says_of (kindOf x.b.ac y0=1)
   have H2:=zh h2
   clear h2
   by_cases e1:y1=i
   ·subst e1
    have eb:(y1==y1)=true:=by simp
    gi_wp2_with fail
    refine⟨trivial,fun h=>(by cases h),?_⟩
    refine(callsIn_wide.2 (IRead.iHolder _ x y0 b2 ((zu HR).below (zu S1).b) (zu OK).1.1 (zu H2))).mono ?_
    rintro e w1 ⟨rfl,bb⟩
    have S2:=zh ((zu S1).step bb)
    have J2:=(zu HJ) _ _ _ (zu J1) bb
    have f0:w1.cell? ⟨wr.heap.size,0,none⟩=some (.int .i64 y0):=(bb.cell (p:=⟨wr.heap.size,0,none⟩) (by simp)).trans (by simp)
    have f2:w1.cell? ⟨wr.heap.size,2,none⟩=some (.int .i64 y2):=(bb.cell (p:=⟨wr.heap.size,2,none⟩) (by simp)).trans (by simp)
    clear bb c0 c1 c2 c3 c4 c5 cn d0 d1 d2 S1 J1
    cases b2
    ·have HP2:=zh (show vals pre=heldB x.b.ac y1 (x.b.bs.take (k+1)) from by
      rw[zu NX,zu PK,if_neg (fun h=>(zu H2).no h.2),zu hP];simp)
     have J3:=zh J2
     clear hP PK NX IN J2 f0 f2
     gi_wp2
     refine⟨fun _ h=>(by cases h),?_⟩
     gi_wp2
     go_roundw
     case rel=>exact⟨k+1,pre,by omega,by go_num,HP2,zu J3,zu S2⟩
     case measure=>simp[intOf];omega
    ·have PE:=zh (show PQ=[(y0,y2)] from by rw[zu PK,if_pos ⟨trivial,(zu H2).yes⟩])
     obtain⟨q1,q2⟩:=(zu IN) (y0,y2) (by rw[zu PE];simp)
     have HP2:=zh (show vals (pre++[⟨(y0,y2),q1,q2⟩])=heldB x.b.ac y1 (x.b.bs.take (k+1)) from by
      rw[zu NX,zu PE,vals_append,zu hP];rfl)
     obtain⟨fn,tmps,assign,body,hy,hR⟩:=(zu HY) pre ⟨(y0,y2),q1,q2⟩ w1 J2 (zu PL)
     dsimp only at hy
     clear hP PK NX IN J2
     gi_wp2
     refine⟨fun h=>(by cases h),hR.mono ?_⟩
     rintro e W3 (⟨rfl,hJ3,hk3⟩|⟨rfl,hJx3⟩)
     ·have J4:=zh hJ3
      have S4:=zh ((zu S2).keep hk3)
      clear hJ3 hk3 hR hy f0 f2
      gi_wp2
      go_roundw
      case rel=>exact⟨k+1,_,by omega,by go_num,HP2,zu J4,zu S4⟩
      case measure=>simp[intOf];omega
     ·have J4:=zh hJx3
      clear hJx3 hR hy f0 f2
      gi_wp2
      refine bodyPost_ret (results_none rfl _ _ _) rfl ?_
      exact⟨⟨_,rfl⟩,.inr ⟨_,by
       rw[zu HP2]
       conv=>rhs;rw[←List.take_append_drop (k+1) x.b.bs,heldB_append]
       exact List.prefix_append _ _,zu J4⟩⟩
   ·have eb:(y1==i)=false:=by simpa using e1
    have HP2:=zh (show vals pre=heldB x.b.ac i (x.b.bs.take (k+1)) from by
     rw[zu NX,zu PK,if_neg (fun h=>e1 h.1),zu hP];simp)
    clear e1 hP PK NX IN
    gi_wp2
    refine⟨trivial,?_⟩
    gi_wp2
    refine⟨fun _ h=>(by cases h),?_⟩
    gi_wp2
    go_roundw
    case rel=>exact⟨k+1,pre,by omega,by go_num,HP2,zu J1,zu S1⟩
    case measure=>simp[intOf];omega
  ·have kk:k=x.b.bs.length:=by omega
   have FIN:=zh (show vals pre=heldB x.b.ac i x.b.bs from by rw[zu hP,kk,List.take_length])
   have JJ:=zh hJs
   clear hP hS hJs kk
   gi_wp2
   go_end0
   exact⟨⟨_,rfl⟩,.inl ⟨pre,zu FIN,zu JJ⟩⟩
end HeldIt
namespace HeldC
open Go.Shelf BMem Bks ILists HeldP SHeld HeldIt
open IBalsFit (one_more)
open Lots (Says says_of NoOk)
open Bals (T3 val Amt el3)
attribute [local go_sem] Oper.semAt_some
def B3(W:World)(B:Nat)(v0 v1 v2:Value):Prop:=W.heap[B]?=some (.cells #[v0,v1,v2] 94 (0,0))
section
variable {W W':World} {B:Nat} {v0 v1 v2:Value}
theorem B3.lt(h:B3 W B v0 v1 v2):B<W.heap.size:=(Array.getElem?_eq_some_iff.1 h).1
theorem B3.c0(h:B3 W B v0 v1 v2):W.cell? ⟨B,0,none⟩=some v0:=by simp[World.cell?,show W.heap[B]?=_ from h]
theorem B3.c1(h:B3 W B v0 v1 v2):W.cell? ⟨B,1,none⟩=some v1:=by simp[World.cell?,show W.heap[B]?=_ from h]
theorem B3.c2(h:B3 W B v0 v1 v2):W.cell? ⟨B,2,none⟩=some v2:=by simp[World.cell?,show W.heap[B]?=_ from h]
theorem B3.free(h:B3 W B v0 v1 v2)(j:Nat):W.frozen? ⟨B,j,none⟩=false:=by simp[World.frozen?,show W.heap[B]?=_ from h]
theorem B3.kept{row:Option Nat}(h:B3 W B v0 v1 v2)(k:W.grownBy W' row)(hne:some B≠row):B3 W' B v0 v1 v2:=(k.block B h.lt hne).trans h
theorem B3.alloc(h:B3 W B v0 v1 v2)(o:Obj):B3 (W.alloc o) B v0 v1 v2:=h.kept (World.grownBy_alloc W o none) (by simp)
theorem B3.below{n:Nat}(h:B3 W B v0 v1 v2)(k:Below n W W')(hB:B<n):B3 W' B v0 v1 v2:=(k.block B hB).trans h
theorem B3.new(W:World)(v0 v1 v2:Value):B3 (W.alloc (.cells #[v0,v1,v2] 94)) W.heap.size v0 v1 v2:=World.alloc_heap_new W _
theorem B3.notCells{r:Nat}(h:B3 W B v0 v1 v2){o:Obj}(ho:W.heap[r]?=some o)(hc:o.isCells=false):B≠r:=by
 rintro rfl
 rw[show W.heap[B]?=_ from h] at ho;cases ho;cases hc
theorem B3.set0(h:B3 W B v0 v1 v2)(u:Value):B3 (W.setCell ⟨B,0,none⟩ u) B u v1 v2:=by
 obtain⟨hlt,hk⟩:=Array.getElem?_eq_some_iff.1 h
 show(W.heap.modify B _)[B]?=_
 rw[Array.getElem?_eq_getElem (by rw[Array.size_modify];exact hlt),Array.getElem_modify_self,hk]
 rfl
theorem B3.set1(h:B3 W B v0 v1 v2)(u:Value):B3 (W.setCell ⟨B,1,none⟩ u) B v0 u v2:=by
 obtain⟨hlt,hk⟩:=Array.getElem?_eq_some_iff.1 h
 show(W.heap.modify B _)[B]?=_
 rw[Array.getElem?_eq_getElem (by rw[Array.size_modify];exact hlt),Array.getElem_modify_self,hk]
 rfl
theorem B3.set2(h:B3 W B v0 v1 v2)(u:Value):B3 (W.setCell ⟨B,2,none⟩ u) B v0 v1 u:=by
 obtain⟨hlt,hk⟩:=Array.getElem?_eq_some_iff.1 h
 show(W.heap.modify B _)[B]?=_
 rw[Array.getElem?_eq_getElem (by rw[Array.size_modify];exact hlt),Array.getElem_modify_self,hk]
 rfl
theorem three_grown(W:World)(B:Nat)(u0 u1 u2:Value):W.grownBy (((W.setCell ⟨B,0,none⟩ u0).setCell ⟨B,1,none⟩ u1).setCell ⟨B,2,none⟩ u2) (some B):=
 ⟨rfl,rfl,rfl,by simp[World.setCell],fun j hj hn=>by
  have hne:j≠B:=fun e=>hn (by rw[e])
  rw[Below.heap_setCell _ _ _ _ hne,Below.heap_setCell _ _ _ _ hne,Below.heap_setCell _ _ _ _ hne]⟩
theorem B3.three(h:B3 W B v0 v1 v2)(u0 u1 u2:Value):B3 (((W.setCell ⟨B,0,none⟩ u0).setCell ⟨B,1,none⟩ u1).setCell ⟨B,2,none⟩ u2) B u0 u1 u2:=((h.set0 u0).set1 u1).set2 u2
end
theorem own_cells{W:World}{base g n c:Nat}{xs:List Int}(h:Ints.Own W base g n c xs):∃cur,W.heap[g]?=some (.cells cur 3 (0,0)):=by
 rcases h.2 with⟨z,_⟩|⟨g',c',cur,z,hb,hc,_⟩
 ·simp at z
 ·obtain⟨rfl,rfl⟩:g=g'∧c=c':=by simpa using z
  exact⟨cur,hc⟩
theorem own_ne_b3{W:World}{base g n c B:Nat}{xs:List Int}{v0 v1 v2:Value}(h:Ints.Own W base g n c xs)(k:B3 W B v0 v1 v2):g≠B:=by
 rintro rfl
 obtain⟨cur,e⟩:=own_cells h
 rw[show W.heap[g]?=_ from k] at e
 injection e with e
 injection e with e1 e2
 revert e2
 decide
structure HI(w:World)(pre:List Som)(W:World):Prop where
 h:∃gA cA gB cB:Nat,B3 W (w.heap.size+1+1+1+1+1) (.slice (some ⟨gA,0,none⟩) pre.length cA) (.slice (some ⟨gB,0,none⟩) pre.length cB) (.int .i64 (sumH (vals pre)))∧Ints.Own W w.heap.size gA pre.length cA ((vals pre).map Prod.fst)∧Ints.Own W w.heap.size gB pre.length cB ((vals pre).map Prod.snd)∧gA≠gB∧gA≠w.heap.size+1+1+1+1+1+1+1∧gB≠w.heap.size+1+1+1+1+1+1+1
 a:Hid (0≤sumH (vals pre)∧sumH (vals pre)≤1000000000000000)
 r:B3 W (w.heap.size+1) (.slice none 0 0) (.slice none 0 0) (.int .i64 0)
 t:Boxed W (w.heap.size+1+1) 4 (.bool false)
 s:w.heap.size+1+1+1+1+1+1+1<W.heap.size
structure HX(w:World)(c:Code)(pre:List Som)(W:World):Prop where
 c:c= .ret
 h:∃gA gB:Nat,B3 W (w.heap.size+1) (.slice (some ⟨gA,0,none⟩) 0 0) (.slice (some ⟨gB,0,none⟩) 0 0) (.int .i64 0)∧Ints.Own W w.heap.size gA 0 0 []∧Ints.Own W w.heap.size gB 0 0 []∧gA≠gB
 a:Hid (1000000000000000<sumH (vals pre))
 t:Boxed W (w.heap.size+1+1) 4 (.bool false)
theorem HI.own(w:World):Go.Own (HI w):=by
 rintro pre X Y row ⟨⟨gA,cA,gB,cB,h1,h2,h3,h4,h5,h6⟩,ha,hr,ht,hs⟩ hg hrow
 have nc:∀j,(∀o,X.heap[j]?=some o→o.isCells=true)→some j≠row:=fun j hj e=>by
  obtain⟨o,ho,hc⟩:=hrow j e.symm
  rw[hj o ho] at hc;cases hc
 have cells:∀{j:Nat} {cs:Array Value} {e:TypeId} {f:Nat×Nat},X.heap[j]?=some (.cells cs e f)→some j≠row:=fun{j cs e f} hj=>nc j (fun o ho=>by rw[hj] at ho;cases ho;rfl)
 obtain⟨curA,eA⟩:=own_cells h2
 obtain⟨curB,eB⟩:=own_cells h3
 exact⟨⟨gA,cA,gB,cB,h1.kept hg (cells h1),h2.kept hg (cells eA),h3.kept hg (cells eB),h4,h5,h6⟩,ha,hr.kept hg (cells hr),ht.kept hg (cells ht),Nat.lt_of_lt_of_le hs hg.size⟩
theorem HX.own(w:World)(c:Code):Go.Own (HX w c):=by
 rintro pre X Y row ⟨hc',⟨gA,gB,h1,h2,h3,h4⟩,ha,ht⟩ hg hrow
 have nc:∀j,(∀o,X.heap[j]?=some o→o.isCells=true)→some j≠row:=fun j hj e=>by
  obtain⟨o,ho,hc⟩:=hrow j e.symm
  rw[hj o ho] at hc;cases hc
 have cells:∀{j:Nat} {cs:Array Value} {e:TypeId} {f:Nat×Nat},X.heap[j]?=some (.cells cs e f)→some j≠row:=fun{j cs e f} hj=>nc j (fun o ho=>by rw[hj] at ho;cases ho;rfl)
 obtain⟨curA,eA⟩:=own_cells h2
 obtain⟨curB,eB⟩:=own_cells h3
 exact⟨hc',⟨gA,gB,h1.kept hg (cells h1),h2.kept hg (cells eA),h3.kept hg (cells eB),h4⟩,ha,ht.kept hg (cells ht)⟩
theorem iHolders(w:World)(x:Bx)(i:Int):
  Calls Tryz.prog 118 #[.agg #[.slice (some ⟨x.ga,0,none⟩) x.b.ac.length x.ca,.slice (some ⟨x.gi,0,none⟩) x.b.ic.length x.ci,.slice (some ⟨x.gb,0,none⟩) x.b.bs.length x.cb,.slice (some ⟨x.gl,0,none⟩) x.b.ls.length x.cl,.slice (some ⟨x.gt,0,none⟩) x.b.ts.length x.ct,.int .i64 x.b.lot],.int .i64 i] w fun e w'=>e= .returned (.func (.func 158) #[] #[.pointer (some ⟨w.heap.size,0,none⟩),.pointer (some ⟨w.heap.size+1,0,none⟩)])∧w'=(w.alloc (.cells #[.slice (some ⟨x.ga,0,none⟩) x.b.ac.length x.ca,.slice (some ⟨x.gi,0,none⟩) x.b.ic.length x.ci,.slice (some ⟨x.gb,0,none⟩) x.b.bs.length x.cb,.slice (some ⟨x.gl,0,none⟩) x.b.ls.length x.cl,.slice (some ⟨x.gt,0,none⟩) x.b.ts.length x.ct,.int .i64 x.b.lot] 36)).alloc (.cells #[.int .i64 i] 3):=by
 have hmf:∀(fn:Fn) (first cp:Array Value) (w:World),(Instr.makeFunc fn first cp).run Tryz.prog w= .ok (.func fn first cp) w:=fun _ _ _ _=>rfl
 go_enter Tryz.func118,Tryz.ntmps118
 go_wp2
 go_ret
 exact⟨rfl,rfl⟩
theorem lit0(w:World)(base:Nat)(hb:base≤w.heap.size):Ints.Own (w.alloc (.cells #[] 3)) base w.heap.size 0 0 []:=World.ownsRow_lit w #[] 0 hb (by decide) rfl
theorem HX.made{w W:World}{pre:List Som}(hr:B3 W (w.heap.size+1) (.slice none 0 0) (.slice none 0 0) (.int .i64 0))(ht:Boxed W (w.heap.size+1+1) 4 (.bool false))(hB:Below w.heap.size w W)(hs:w.heap.size+1+1+1+1+1+1+1<W.heap.size)(ha:1000000000000000<sumH (vals pre)):KeepsOthers W ((((((W.alloc (.cells #[] 3)).alloc (.cells #[] 3)).setCell ⟨w.heap.size+1,0,none⟩ (.slice (some ⟨W.heap.size,0,none⟩) 0 0)).setCell ⟨w.heap.size+1,1,none⟩ (.slice (some ⟨W.heap.size+1,0,none⟩) 0 0)).setCell ⟨w.heap.size+1,2,none⟩ (.int .i64 0)).setCell ⟨w.heap.size+1+1,0,none⟩ (.bool false))∧HX w .ret pre ((((((W.alloc (.cells #[] 3)).alloc (.cells #[] 3)).setCell ⟨w.heap.size+1,0,none⟩ (.slice (some ⟨W.heap.size,0,none⟩) 0 0)).setCell ⟨w.heap.size+1,1,none⟩ (.slice (some ⟨W.heap.size+1,0,none⟩) 0 0)).setCell ⟨w.heap.size+1,2,none⟩ (.int .i64 0)).setCell ⟨w.heap.size+1+1,0,none⟩ (.bool false))∧Below w.heap.size w ((((((W.alloc (.cells #[] 3)).alloc (.cells #[] 3)).setCell ⟨w.heap.size+1,0,none⟩ (.slice (some ⟨W.heap.size,0,none⟩) 0 0)).setCell ⟨w.heap.size+1,1,none⟩ (.slice (some ⟨W.heap.size+1,0,none⟩) 0 0)).setCell ⟨w.heap.size+1,2,none⟩ (.int .i64 0)).setCell ⟨w.heap.size+1+1,0,none⟩ (.bool false)):=by
 have g3:=three_grown ((W.alloc (.cells #[] 3)).alloc (.cells #[] 3)) (w.heap.size+1) (.slice (some ⟨W.heap.size,0,none⟩) 0 0) (.slice (some ⟨W.heap.size+1,0,none⟩) 0 0) (.int .i64 0)
 have g4:=grownBy_setCell' (((((W.alloc (.cells #[] 3)).alloc (.cells #[] 3)).setCell ⟨w.heap.size+1,0,none⟩ (.slice (some ⟨W.heap.size,0,none⟩) 0 0)).setCell ⟨w.heap.size+1,1,none⟩ (.slice (some ⟨W.heap.size+1,0,none⟩) 0 0)).setCell ⟨w.heap.size+1,2,none⟩ (.int .i64 0)) (w.heap.size+1+1) (.bool false)
 have oA:Ints.Own ((W.alloc (.cells #[] 3)).alloc (.cells #[] 3)) w.heap.size W.heap.size 0 0 []:=(lit0 W w.heap.size hB.size).alloc (.cells #[] 3)
 have oB:=lit0 (W.alloc (.cells #[] 3)) w.heap.size (by have:=hB.size;simp;omega)
 rw[World.size_alloc] at oB
 have b2:Below w.heap.size w ((W.alloc (.cells #[] 3)).alloc (.cells #[] 3)):=(hB.alloc hB.size _).alloc (by have:=hB.size;simp;omega) _
 have b3:=b2.grown g3 b2.size (fun k e=>by injection e with e;omega)
 refine⟨((((((KeepsOthers.alloc W _).trans (KeepsOthers.alloc _ _)).trans (KeepsOthers.setCell _ _ _)).trans (KeepsOthers.setCell _ _ _)).trans (KeepsOthers.setCell _ _ _)).trans (KeepsOthers.setCell _ _ _)),⟨rfl,⟨W.heap.size,W.heap.size+1,?_,?_,?_,by omega⟩,zh ha,?_⟩,b3.grown g4 b3.size (fun k e=>by injection e with e;omega)⟩
 ·exact(((hr.alloc _).alloc _).three _ _ _).kept g4 (fun e=>by injection e with e;omega)
 ·exact(oA.kept g3 (fun e=>by injection e with e;omega)).kept g4 (fun e=>by injection e with e;omega)
 ·exact(oB.kept g3 (fun e=>by injection e with e;omega)).kept g4 (fun e=>by injection e with e;omega)
 ·exact(((ht.alloc _).alloc _).kept g3 (fun e=>by injection e with e;omega)).set (.bool false)
theorem pos_all{b:Bk}{i:Int}(h:Ok b):∀q∈heldB b.ac i b.bs,1≤q.2:=fun q hq=>by
 rw[←held_eq h] at hq
 have:=(heldL_mem.1 hq).2.2
 omega
end HeldC
namespace RoundT
open Go
section
variable {P:Program} {ops:Array Oper} {Q:Exit→Act→World→Prop} {md:Region.Mode} {n l:Nat}
theorem op_in{o:Oper}{a:Act}{w:World}{K:Act→World→Prop}(hd:∀c,o.op≠ .defer c)(hh:o.wp P a w K Q):o.wpIn (Fence.wide.inRound l) n P a w K Q:=by
 refine⟨fun _ _=>trivial,?_⟩
 rw[Oper.semAt_plain _ _ _ hd]
 unfold Oper.wp at hh
 generalize (execOp a.eval o).run P w=r at *
 cases r with
 |ok x w'=>
  cases x<;>simp only[Oper.upon,Oper.uponIn] at hh⊢<;>
   first
    |exact hh
    |exact⟨fun h=>(by cases h),CallsIn.inRound l (callsIn_wide.2 hh)⟩
    |exact⟨fun h=>(by cases h),fun c cs _=>let⟨v,w',r,s⟩:=hh c cs;⟨v,w',r,stepsIn_wide.2 s⟩⟩
 |halt x w'=>cases x<;>simp only[Oper.upon,Oper.uponIn] at hh⊢<;>exact hh
theorem any_in(hd:∀(i:Nat) (o:Oper),ops[i]?=some o→∀c,o.op≠ .defer c)(hL:¬LetsOut Q):∀(fuel:Nat) (listed:Array Bool) (a:Act) (w:World),wpAny P md ops Q fuel listed a w→wpAnyIn (Fence.wide.inRound l) n P md ops Q fuel listed a w
 |0,_,_,_,h=>h
 |fuel+1,listed,a,w,h=>by
  refine⟨h.1,fun i hi=>?_⟩
  have k:=h.2 i hi
  unfold wpOp at k
  unfold wpOpIn
  split
  ·rename_i ho
   rw[ho] at k
   exact any_in hd hL fuel _ _ _ k
  ·rename_i o ho
   rw[ho] at k
   dsimp only at k
   split
   ·rename_i hw
    rw[if_pos hw] at k
    rcases k with k|k
    ·exact Oper.wpIn_mono (fun a w h=>any_in hd hL fuel _ a w h) (op_in (hd i o ho) k)
    ·exact absurd k.2 hL
   ·rename_i hw
    rw[if_neg hw] at k
    exact⟨fun _ _=>trivial,any_in hd hL fuel _ _ _ k⟩
def plainB(ops:Array Oper):Bool:=ops.toList.all fun o=>match o.op with| .defer _=>false|_=>true
theorem plain_of(h:plainB ops=true):∀(i:Nat) (o:Oper),ops[i]?=some o→∀c,o.op≠ .defer c:=by
 intro i o ho c e
 unfold plainB at h
 rw[List.all_eq_true] at h
 have:=h o (by
  have:=Array.mem_of_getElem? ho
  exact Array.mem_toList_iff.2 this)
 rw[e] at this
 cases this
theorem region_inv2(D:List (List Nat))(I:Array Bool→Act→World→Prop){id:Nat}{a:Act}{w:World}(hp:plainB ops=true)(hL:¬LetsOut Q)(hm:P.follows .mixedOrders=true)(hb:AnyInv.backB ops=true)(hw:AnyInv.waitsB ops D=true)
  (hsz:∀listed a w,I listed a w→listed.size=ops.size)
  (h0:I (Array.replicate ops.size false) a w.drew)
  (hstep:∀listed a w i,I listed a w→i<ops.size→listed.getD i true=false→(∀j∈D.getD i [],listed.getD j false=true)→wpOp P ops Q i (I (listed.setIfInBounds i true)) a w)
  (hdone:∀listed a w,I listed a w→(∀i,i<ops.size→listed.getD i true=true)→Q .normal a w):(Code.region id ops true).wpIn (Fence.wide.inRound l) n P Q a w:=
 wpIn_region_any hm (any_in (plain_of hp) hL _ _ _ _ (AnyInv.wpAny_inv I hsz (AnyInv.back_of hb) (fun listed a w i o hI ho hl hd=>hstep listed a w i hI (Array.getElem?_eq_some_iff.1 ho).1 hl (AnyInv.waits_of hw ho hd)) hdone ops.size _ a _ (List.range ops.size) h0 (by simp) (fun i hi _=>List.mem_range.2 hi)))
end
end RoundT
namespace HeldR
open Go.Shelf BMem Bks ILists HeldP SHeld HeldIt HeldC AnyInv
open Copy (wpo_append)
theorem info3:(Tryz.prog.info? 3).map (fun i=>(i.zero,i.size,i.bytes))=some (some (.int .i64 0),1,8):=by kernel_rfl
theorem run_one(W:World)(base g n c s:Nat)(v:Int)(xs:List Int)(hown:Ints.Own W base g n c xs)(hs:W.cell? ⟨s,0,none⟩=some (.int .i64 v))(hn:n+1≤1048576)(hb:base≤W.heap.size):
  ∃g' c' W',(Builtin.append_ #[43,43] 43 #[.slice (some ⟨g,0,none⟩) n c,.slice (some ⟨s,0,none⟩) 1 1]).run Tryz.prog W= .ok (.slice (some ⟨g',0,none⟩) (n+1) c') W'∧Ints.Own W' base g' (n+1) c' (xs++[v])∧W.grownBy W' (some g)∧(g'=g∨W.heap.size≤g'):=by
 obtain⟨i0,hi,hz0,hz1,hz2⟩:=info_parts info3
 obtain⟨v',w',hr,ho,hg,hn',hb'⟩:=run_append_own_at (P:=Tryz.prog) W base 43 43 3 i0 (.int .i64 0) 1 8 Tryz.underlying43 hi hz0 hz1 hz2 rfl (by decide) (.slice (some ⟨g,0,none⟩) n c) n (xs.map (Value.int .i64)) hown ⟨s,0,none⟩ 1 1 [.int .i64 v] rfl (fun j u hj=>by
   match j with
   |0=>simp at hj;subst hj;exact hs
   |j+1=>simp at hj) (fun u hu=>by simp at hu;subst hu;rfl) (by unfold maxLen;omega) (by omega) hb
 have ne:¬v'= .slice none 0 0:=fun e=>by have:=(hn'.1 e).2;omega
 rcases ho.2 with⟨e1,_⟩|⟨g',c',cur,e1,h2,h3⟩
 ·exact absurd e1 ne
 ·subst e1
  refine⟨g',c',w',hr,by simpa[Ints.Own] using ho,hg,?_⟩
  rcases hb' with hb'|hb'
  ·exact .inl (by simpa[Value.ownBlock] using hb')
  ·have e':g'=W.heap.size:=by simpa[Value.ownBlock] using hb'
   exact .inr (by omega)
structure Ch(w W0 W:World):Prop where
 k:Kq w.heap.size (w.heap.size+1+1+1+1+1+1) (w.heap.size+1+1+1+1+1+1+1) W0 W
 f:KeepsOthers W0 W
 r:B3 W (w.heap.size+1) (.slice none 0 0) (.slice none 0 0) (.int .i64 0)
 t:Boxed W (w.heap.size+1+1) 4 (.bool false)
 p:∃cs:Array Value,W.heap[w.heap.size+1+1+1+1+1+1]?=some (.cells cs 36 (0,0))
 s:w.heap.size+1+1+1+1+1+1+1<W.heap.size
theorem Ch.keep{w W0 W W':World}{r:Nat}(h:Ch w W0 W)(gr:W.grownBy W' (some r))(hr:w.heap.size≤r)(n1:r≠w.heap.size+1)(n2:r≠w.heap.size+1+1)(n6:r≠w.heap.size+1+1+1+1+1+1)(n7:r≠w.heap.size+1+1+1+1+1+1+1)(hc:∀o,W.heap[r]?=some o→o.isCells=true):Ch w W0 W':=by
 have sz:=h.s
 have e:∀j,j<W.heap.size→r≠j→W'.heap[j]?=W.heap[j]?:=fun j hj hn=>gr.block j hj (fun e=>hn (by injection e with e;exact e.symm))
 obtain⟨cs,hp⟩:=h.p
 refine⟨h.k.trans ⟨(Below.refl _ _).grown gr (by omega) (fun k e=>by injection e with e;omega),e _ (by omega) n6,e _ (by omega) n7⟩,h.f.trans (KeepsOthers.of_grownBy gr (fun j o ej ho=>by injection ej with ej;subst ej;exact hc o ho)),?_,?_,⟨cs,(e _ (by omega) n6).trans hp⟩,Nat.lt_of_lt_of_le h.s gr.size⟩
 ·exact h.r.kept gr (fun e=>n1 (by injection e with e;exact e.symm))
 ·exact h.t.kept gr (fun e=>n2 (by injection e with e;exact e.symm))
theorem Ch.alloc{w W0 W:World}(h:Ch w W0 W)(o:Obj):Ch w W0 (W.alloc o):=by
 have sz:=h.s
 have e:∀j,j<W.heap.size→(W.alloc o).heap[j]?=W.heap[j]?:=fun j hj=>Below.heap_alloc W o j hj
 obtain⟨cs,hp⟩:=h.p
 exact⟨h.k.trans ⟨(Below.refl _ _).alloc (by omega) o,e _ (by omega),e _ (by omega)⟩,h.f.trans (KeepsOthers.alloc W o),h.r.alloc o,h.t.alloc o,⟨cs,(e _ (by omega)).trans hp⟩,by simp;omega⟩
structure Cn(W:World)(base f off n g c:Nat)(xs:List Int)(y:Int)(k':Nat)(b0 b1 b2 b3 b4:Bool)(u0 u1 u2 u3 u4:Value)(k d:Nat)(ls:List Int):Prop where
 e0:b0=true→u0= .pointer (some ⟨f,off,none⟩)
 e1:b1=true→u1= .slice (some ⟨g,0,none⟩) n c
 e2:b2=true→u2= .int .i64 y
 e3:b3=true→∃s,u3= .slice (some ⟨s,0,none⟩) 1 1∧W.cell? ⟨s,0,none⟩=some (.int .i64 y)∧s<W.heap.size∧s≠k∧s≠k'∧s≠f
 o:Ints.Own W base k ls.length d ls
 n4:b4=false→k=g∧d=c∧ls=xs
 y4:b4=true→u4= .slice (some ⟨k,0,none⟩) ls.length d∧ls=xs++[y]
 i1:b4=true→b1=true
section
variable {W W':World} {base f off n g c:Nat} {xs:List Int} {y:Int} {k':Nat} {b0 b1 b2 b3 b4:Bool} {u0 u1 u2 u3 u4:Value} {k d:Nat} {ls:List Int}
theorem Cn.keep{r j:Nat}(h:Cn W base f off n g c xs y k' b0 b1 b2 b3 b4 u0 u1 u2 u3 u4 k d ls)(gr:W.grownBy W' (some r))(hk:k≠r)(hs:r=k'∨r=f)(hj:j=k'∨W.heap.size≤j):Cn W' base f off n g c xs y j b0 b1 b2 b3 b4 u0 u1 u2 u3 u4 k d ls:=
 ⟨h.e0,h.e1,h.e2,fun e=>by
  obtain⟨s,q1,q2,q3,q4,q5,q6⟩:=h.e3 e
  exact⟨s,q1,gr.cell q2 (fun e=>by injection e with e;have e':s=r:=e;omega),Nat.lt_of_lt_of_le q3 gr.size,q4,by omega,q6⟩,h.o.kept gr (fun e=>hk (by injection e)),h.n4,h.y4,h.i1⟩
theorem Cn.alloc(h:Cn W base f off n g c xs y k' b0 b1 b2 b3 b4 u0 u1 u2 u3 u4 k d ls)(o:Obj):Cn (W.alloc o) base f off n g c xs y k' b0 b1 b2 b3 b4 u0 u1 u2 u3 u4 k d ls:=
 ⟨h.e0,h.e1,h.e2,fun e=>by
  obtain⟨s,q1,q2,q3,q4⟩:=h.e3 e
  exact⟨s,q1,(World.cell?_alloc_past _ _ _ q3).trans q2,by simp;omega,q4⟩,h.o.alloc o,h.n4,h.y4,h.i1⟩
theorem Cn.addr(h:Cn W base f off n g c xs y k' b0 b1 b2 b3 b4 u0 u1 u2 u3 u4 k d ls):Cn W base f off n g c xs y k' true b1 b2 b3 b4 (.pointer (some ⟨f,off,none⟩)) u1 u2 u3 u4 k d ls:=⟨fun _=>rfl,h.e1,h.e2,h.e3,h.o,h.n4,h.y4,h.i1⟩
theorem Cn.load(h:Cn W base f off n g c xs y k' b0 b1 b2 b3 b4 u0 u1 u2 u3 u4 k d ls):Cn W base f off n g c xs y k' b0 true b2 b3 b4 u0 (.slice (some ⟨g,0,none⟩) n c) u2 u3 u4 k d ls:=⟨h.e0,fun _=>rfl,h.e2,h.e3,h.o,h.n4,h.y4,fun _=>rfl⟩
theorem Cn.mv(h:Cn W base f off n g c xs y k' b0 b1 b2 b3 b4 u0 u1 u2 u3 u4 k d ls):Cn W base f off n g c xs y k' b0 b1 true b3 b4 u0 u1 (.int .i64 y) u3 u4 k d ls:=⟨h.e0,h.e1,fun _=>rfl,h.e3,h.o,h.n4,h.y4,h.i1⟩
theorem Cn.made(h:Cn W base f off n g c xs y k' b0 b1 b2 b3 b4 u0 u1 u2 u3 u4 k d ls)(hk:k'<W.heap.size)(hf:f<W.heap.size):Cn (W.alloc (.cells #[.int .i64 y] 3)) base f off n g c xs y k' b0 b1 b2 true b4 u0 u1 u2 (.slice (some ⟨W.heap.size,0,none⟩) 1 1) u4 k d ls:=by
 have lk:=h.o.lt.2
 exact⟨h.e0,h.e1,h.e2,fun _=>⟨W.heap.size,rfl,by simp,by simp,by omega,by omega,by omega⟩,h.o.alloc _,h.n4,h.y4,h.i1⟩
theorem Cn.app{g' c':Nat}(h:Cn W base f off n g c xs y k' b0 b1 b2 b3 b4 u0 u1 u2 u3 u4 k d ls)(ln:xs.length=n)(gr:W.grownBy W' (some g))(o:Ints.Own W' base g' (n+1) c' (xs++[y]))(hl:g'=g∨W.heap.size≤g')(b4f:b4=false)(b1t:b1=true):Cn W' base f off n g c xs y k' b0 b1 b2 b3 true u0 u1 u2 u3 (.slice (some ⟨g',0,none⟩) (n+1) c') g' c' (xs++[y]):=by
 have kg:=(h.n4 b4f).1
 refine⟨h.e0,h.e1,h.e2,fun e=>?_,?_,(fun e=>by cases e),fun _=>⟨?_,rfl⟩,fun _=>b1t⟩
 ·obtain⟨s,q1,q2,q3,q4,q5,q6⟩:=h.e3 e
  exact⟨s,q1,gr.cell q2 (fun e=>by injection e with e;have e':s=g:=e;omega),Nat.lt_of_lt_of_le q3 gr.size,by omega,q5,q6⟩
 ·simpa[ln] using o
 ·simp[ln]
end
def Inv(w W0:World)(x:Bx)(i y1 y2 z:Int)(n gA cA gB cB:Nat)(xA xB:List Int)(listed:Array Bool)(a:Act)(W:World):Prop:=
 ∃(b0 b1 b2 b3 b4 b5 b6 b7 b8 b9 b10 b11 b12:Bool) (v31 v32 v33 v34 v35 v36 v37 v38 v39 v40 v41 v42:Value) (kA dA:Nat) (lA:List Int) (kB dB:Nat) (lB:List Int),listed= #[b0,b1,b2,b3,b4,b5,b6,b7,b8,b9,b10,b11,b12]∧a={tmps:= #[.agg #[.slice (some ⟨x.ga,0,none⟩) x.b.ac.length x.ca,.slice (some ⟨x.gi,0,none⟩) x.b.ic.length x.ci,.slice (some ⟨x.gb,0,none⟩) x.b.bs.length x.cb,.slice (some ⟨x.gl,0,none⟩) x.b.ls.length x.cl,.slice (some ⟨x.gt,0,none⟩) x.b.ts.length x.ct,.int .i64 x.b.lot],.int .i64 i,.pointer (some ⟨w.heap.size,0,none⟩),undef,.pointer (some ⟨w.heap.size+1,0,none⟩),.pointer (some ⟨w.heap.size+1+1,0,none⟩),.pointer (some ⟨w.heap.size+1+1+1+1+1,0,none⟩),.int .i64 y1,.int .i64 y2,.int .i64 (z+y2),.bool true,.slice (some ⟨w.heap.size+1+1+1,0,none⟩) 0 0,.slice (some ⟨w.heap.size+1+1+1+1,0,none⟩) 0 0,.agg #[.slice (some ⟨w.heap.size+1+1+1,0,none⟩) 0 0,.slice (some ⟨w.heap.size+1+1+1+1,0,none⟩) 0 0,.int .i64 0],.agg #[.slice (some ⟨x.ga,0,none⟩) x.b.ac.length x.ca,.slice (some ⟨x.gi,0,none⟩) x.b.ic.length x.ci,.slice (some ⟨x.gb,0,none⟩) x.b.bs.length x.cb,.slice (some ⟨x.gl,0,none⟩) x.b.ls.length x.cl,.slice (some ⟨x.gt,0,none⟩) x.b.ts.length x.ct,.int .i64 x.b.lot],.int .i64 i,.func (.func 158) #[] #[.pointer (some ⟨w.heap.size+1+1+1+1+1+1,0,none⟩),.pointer (some ⟨w.heap.size+1+1+1+1+1+1+1,0,none⟩)],.int .i64 y1,.int .i64 y2,.tuple #[.int .i64 (z+y2),.bool true],.pointer (some ⟨w.heap.size+1+1+1+1+1,2,none⟩),.int .i64 z,.int .i64 y2,.tuple #[.int .i64 (z+y2),.bool true],.int .i64 (z+y2),.bool true,.bool true,.bool false,undef,undef,undef,v31,v32,v33,v34,v35,v36,v37,v38,v39,v40,v41,v42,undef],defers:=[]}∧Ch w W0 W∧
  Cn W w.heap.size (w.heap.size+1+1+1+1+1) 0 n gA cA xA y1 kB b0 b1 b2 b3 b4 v31 v32 v33 v34 v35 kA dA lA∧Cn W w.heap.size (w.heap.size+1+1+1+1+1) 1 n gB cB xB y2 kA b5 b6 b7 b8 b9 v36 v37 v38 v39 v40 kB dB lB∧
  (kA≠kB∧kA≠w.heap.size+1+1+1+1+1+1+1∧kB≠w.heap.size+1+1+1+1+1+1+1)∧(b10=true→v41= .int .i64 (z+y2))∧(b11=true→(b4=true∧b9=true)∧v42= .agg #[v35,v40,.int .i64 (z+y2)])∧
  (b12=false→B3 W (w.heap.size+1+1+1+1+1) (.slice (some ⟨gA,0,none⟩) n cA) (.slice (some ⟨gB,0,none⟩) n cB) (.int .i64 z))∧(b12=true→(b4=true∧b9=true)∧B3 W (w.heap.size+1+1+1+1+1) v35 v40 (.int .i64 (z+y2)))
theorem int_ne{w W0 W:World}{base g n c:Nat}{xs:List Int}(h:Ch w W0 W)(o:Ints.Own W base g n c xs):g≠w.heap.size+1∧g≠w.heap.size+1+1∧g≠w.heap.size+1+1+1+1+1+1:=by
 obtain⟨cur,e⟩:=own_cells o
 obtain⟨cs,hp⟩:=h.p
 refine⟨own_ne_b3 o h.r,?_,?_⟩
 ·rintro rfl
  rw[show W.heap[w.heap.size+1+1]?=_ from h.t] at e
  injection e with e
  injection e with e1 e2
  revert e2
  decide
 ·rintro rfl
  rw[hp] at e
  injection e with e
  injection e with e1 e2
  revert e2
  decide
end HeldR
namespace HeldI
open Go.Shelf BMem Bks ILists HeldP SHeld HeldIt HeldC HeldR AnyInv
open IBalsFit (one_more)
open Copy (wpo_append)
open Lots (Says says_of NoOk)
open Bals (T3 val Amt el3)
attribute [local go_sem] Oper.semAt_some
theorem iHeldM(w:World)(x:Bx)(i:Int)(h:Rd w x)(ok:Ok x.b):
  Calls Tryz.prog 69 #[.agg #[.slice (some ⟨x.ga,0,none⟩) x.b.ac.length x.ca,.slice (some ⟨x.gi,0,none⟩) x.b.ic.length x.ci,.slice (some ⟨x.gb,0,none⟩) x.b.bs.length x.cb,.slice (some ⟨x.gl,0,none⟩) x.b.ls.length x.cl,.slice (some ⟨x.gt,0,none⟩) x.b.ts.length x.ct,.int .i64 x.b.lot],.int .i64 i] w fun e w'=>∃(who what:List Int) (all:Int) (okb:Bool) (g1 c1 g2 c2:Nat),IsHeld x.b i who what all okb∧who.length=what.length∧e= .returned (.tuple #[.agg #[.slice (some ⟨g1,0,none⟩) who.length c1,.slice (some ⟨g2,0,none⟩) what.length c2,.int .i64 all],.bool okb])∧Ints.Own w' w.heap.size g1 who.length c1 who∧Ints.Own w' w.heap.size g2 what.length c2 what∧g1≠g2∧Below w.heap.size w w':=by
 have OK:=zh ok
 have HR:=zh h
 have nb:=h.nb
 clear h ok
 refine(callsIn_wide (n:=3)).1 ?_
 refine callsIn_of_wp_marks Tryz.func69 rfl trivial ?_ rfl
 simp only[Tryz.ntmps69,List.size_toArray,List.length_cons,List.length_nil,Nat.reduceAdd,Nat.reduceSub,Array.replicate_succ,Array.replicate_zero,List.push_toArray,List.append_toArray,List.nil_append,List.cons_append]
 gi_wp2_with fail
 refine⟨trivial,?_⟩
 refine(callsIn_wide.2 (iHolders _ x i)).mono ?_
 rintro e wl ⟨rfl,hwl⟩
 have B0:=zh (show Below w.heap.size w wl from by
  rw[hwl]
  exact(((((((Below.refl _ w).alloc (Nat.le_refl _) _).alloc (by simp) _).alloc (by simp;omega) _).alloc (by simp;omega) _).alloc (by simp;omega) _).alloc (by simp;omega) _).alloc (by simp;omega) _|>.alloc (by simp;omega) _)
 have I0:=zh (show HI w [] wl from by
  rw[hwl]
  refine⟨⟨w.heap.size+1+1+1,0,w.heap.size+1+1+1+1,0,?_,?_,?_,by omega,by omega,by omega⟩,zh (by simp[vals,sumH]),?_,?_,by simp⟩
  ·have:=B3.new (((((w.alloc (.cells #[.slice (some ⟨x.ga,0,none⟩) x.b.ac.length x.ca,.slice (some ⟨x.gi,0,none⟩) x.b.ic.length x.ci,.slice (some ⟨x.gb,0,none⟩) x.b.bs.length x.cb,.slice (some ⟨x.gl,0,none⟩) x.b.ls.length x.cl,.slice (some ⟨x.gt,0,none⟩) x.b.ts.length x.ct,.int .i64 x.b.lot] 36)).alloc (.cells #[.slice none 0 0,.slice none 0 0,.int .i64 0] 94)).alloc (.cells #[.bool false] 4)).alloc (.cells #[] 3)).alloc (.cells #[] 3)) (.slice (some ⟨w.heap.size+1+1+1,0,none⟩) 0 0) (.slice (some ⟨w.heap.size+1+1+1+1,0,none⟩) 0 0) (.int .i64 0)
   simp only[World.size_alloc] at this
   exact(this.alloc _).alloc _
  ·have:=lit0 (((w.alloc (.cells #[.slice (some ⟨x.ga,0,none⟩) x.b.ac.length x.ca,.slice (some ⟨x.gi,0,none⟩) x.b.ic.length x.ci,.slice (some ⟨x.gb,0,none⟩) x.b.bs.length x.cb,.slice (some ⟨x.gl,0,none⟩) x.b.ls.length x.cl,.slice (some ⟨x.gt,0,none⟩) x.b.ts.length x.ct,.int .i64 x.b.lot] 36)).alloc (.cells #[.slice none 0 0,.slice none 0 0,.int .i64 0] 94)).alloc (.cells #[.bool false] 4)) w.heap.size (by simp;omega)
   simp only[World.size_alloc] at this
   exact(((this.alloc _).alloc _).alloc _).alloc _
  ·have:=lit0 ((((w.alloc (.cells #[.slice (some ⟨x.ga,0,none⟩) x.b.ac.length x.ca,.slice (some ⟨x.gi,0,none⟩) x.b.ic.length x.ci,.slice (some ⟨x.gb,0,none⟩) x.b.bs.length x.cb,.slice (some ⟨x.gl,0,none⟩) x.b.ls.length x.cl,.slice (some ⟨x.gt,0,none⟩) x.b.ts.length x.ct,.int .i64 x.b.lot] 36)).alloc (.cells #[.slice none 0 0,.slice none 0 0,.int .i64 0] 94)).alloc (.cells #[.bool false] 4)).alloc (.cells #[] 3)) w.heap.size (by simp;omega)
   simp only[World.size_alloc] at this
   exact((this.alloc _).alloc _).alloc _
  ·have:=B3.new (w.alloc (.cells #[.slice (some ⟨x.ga,0,none⟩) x.b.ac.length x.ca,.slice (some ⟨x.gi,0,none⟩) x.b.ic.length x.ci,.slice (some ⟨x.gb,0,none⟩) x.b.bs.length x.cb,.slice (some ⟨x.gl,0,none⟩) x.b.ls.length x.cl,.slice (some ⟨x.gt,0,none⟩) x.b.ts.length x.ct,.int .i64 x.b.lot] 36)) (.slice none 0 0) (.slice none 0 0) (.int .i64 0)
   simp only[World.size_alloc] at this
   exact(((((this.alloc _).alloc _).alloc _).alloc _).alloc _).alloc _
  ·have:=Boxed.new ((w.alloc (.cells #[.slice (some ⟨x.ga,0,none⟩) x.b.ac.length x.ca,.slice (some ⟨x.gi,0,none⟩) x.b.ic.length x.ci,.slice (some ⟨x.gb,0,none⟩) x.b.bs.length x.cb,.slice (some ⟨x.gl,0,none⟩) x.b.ls.length x.cl,.slice (some ⟨x.gt,0,none⟩) x.b.ts.length x.ct,.int .i64 x.b.lot] 36)).alloc (.cells #[.slice none 0 0,.slice none 0 0,.int .i64 0] 94)) 4 (.bool false)
   simp only[World.size_alloc] at this
   exact((((this.alloc _).alloc _).alloc _).alloc _).alloc _)
 have P0:=zh (show wl.heap[w.heap.size+1+1+1+1+1+1]?=some (.cells #[.slice (some ⟨x.ga,0,none⟩) x.b.ac.length x.ca,.slice (some ⟨x.gi,0,none⟩) x.b.ic.length x.ci,.slice (some ⟨x.gb,0,none⟩) x.b.bs.length x.cb,.slice (some ⟨x.gl,0,none⟩) x.b.ls.length x.cl,.slice (some ⟨x.gt,0,none⟩) x.b.ts.length x.ct,.int .i64 x.b.lot] 36 (0,0)) from by
  rw[hwl]
  have:=World.alloc_heap_new ((((((w.alloc (.cells #[.slice (some ⟨x.ga,0,none⟩) x.b.ac.length x.ca,.slice (some ⟨x.gi,0,none⟩) x.b.ic.length x.ci,.slice (some ⟨x.gb,0,none⟩) x.b.bs.length x.cb,.slice (some ⟨x.gl,0,none⟩) x.b.ls.length x.cl,.slice (some ⟨x.gt,0,none⟩) x.b.ts.length x.ct,.int .i64 x.b.lot] 36)).alloc (.cells #[.slice none 0 0,.slice none 0 0,.int .i64 0] 94)).alloc (.cells #[.bool false] 4)).alloc (.cells #[] 3)).alloc (.cells #[] 3)).alloc (.cells #[.slice (some ⟨w.heap.size+1+1+1,0,none⟩) 0 0,.slice (some ⟨w.heap.size+1+1+1+1,0,none⟩) 0 0,.int .i64 0] 94)) (.cells #[.slice (some ⟨x.ga,0,none⟩) x.b.ac.length x.ca,.slice (some ⟨x.gi,0,none⟩) x.b.ic.length x.ci,.slice (some ⟨x.gb,0,none⟩) x.b.bs.length x.cb,.slice (some ⟨x.gl,0,none⟩) x.b.ls.length x.cl,.slice (some ⟨x.gt,0,none⟩) x.b.ts.length x.ct,.int .i64 x.b.lot] 36)
  simp only[World.size_alloc] at this
  exact(Below.heap_alloc _ _ _ (by simp)).trans this)
 have Z0:w.heap.size+1+1+1+1+1+1+1<wl.heap.size:=by rw[hwl];simp
 have T0:=zh (show It w x i (w.heap.size+1+1+1+1+1+1) (w.heap.size+1+1+1+1+1+1+1) wl from by
  have e:=zu P0
  refine⟨zu B0,⟨?_,?_,?_,?_,?_,?_⟩,?_,by omega,Z0⟩
  case refine_7=>
   have e7:wl.heap[w.heap.size+1+1+1+1+1+1+1]?=some (.cells #[.int .i64 i] 3 (0,0)):=by
    rw[hwl]
    have:=World.alloc_heap_new (((((((w.alloc (.cells #[.slice (some ⟨x.ga,0,none⟩) x.b.ac.length x.ca,.slice (some ⟨x.gi,0,none⟩) x.b.ic.length x.ci,.slice (some ⟨x.gb,0,none⟩) x.b.bs.length x.cb,.slice (some ⟨x.gl,0,none⟩) x.b.ls.length x.cl,.slice (some ⟨x.gt,0,none⟩) x.b.ts.length x.ct,.int .i64 x.b.lot] 36)).alloc (.cells #[.slice none 0 0,.slice none 0 0,.int .i64 0] 94)).alloc (.cells #[.bool false] 4)).alloc (.cells #[] 3)).alloc (.cells #[] 3)).alloc (.cells #[.slice (some ⟨w.heap.size+1+1+1,0,none⟩) 0 0,.slice (some ⟨w.heap.size+1+1+1+1,0,none⟩) 0 0,.int .i64 0] 94)).alloc (.cells #[.slice (some ⟨x.ga,0,none⟩) x.b.ac.length x.ca,.slice (some ⟨x.gi,0,none⟩) x.b.ic.length x.ci,.slice (some ⟨x.gb,0,none⟩) x.b.bs.length x.cb,.slice (some ⟨x.gl,0,none⟩) x.b.ls.length x.cl,.slice (some ⟨x.gt,0,none⟩) x.b.ts.length x.ct,.int .i64 x.b.lot] 36)) (.cells #[.int .i64 i] 3)
    simp only[World.size_alloc] at this
    exact this
   simp[World.cell?,e7]
  all_goals simp[World.cell?,e])
 clear hwl
 gi_wp2
 refine wpIn_rangeFunc_ownG (α:=Som) rfl (by omega) (gf:=158) (lb:= #[.pointer (some ⟨w.heap.size+1+1+1+1+1+1,0,none⟩),.pointer (some ⟨w.heap.size+1+1+1+1+1+1+1,0,none⟩)]) rfl trivial (enters_of Tryz.func158 (by kernel_rfl) rfl) (encs:=fun y=> #[.int .i64 y.1.1,.int .i64 y.1.2]) (Kp:=Kq w.heap.size (w.heap.size+1+1+1+1+1+1) (w.heap.size+1+1+1+1+1+1+1)) (S:=fun ys=>vals ys=heldB x.b.ac i x.b.bs) (Sp:=fun pre=>vals pre<+:heldB x.b.ac i x.b.bs) (N:=x.b.bs.length) (w0:=wl)
  (fun l J Jx W hW hJ _ hY h0=>all1 w x i (w.heap.size+1+1+1+1+1+1) (w.heap.size+1+1+1+1+1+1+1) _ l J Jx (zu HR) (zu OK) hY W ((zu T0).step hW) hJ h0)
  (fun h k=>h.trans k) (fun W l o o' hl ho hc hw=>⟨belowK_b (w:=wl) (zu B0).size W l o o' hl ho hc hw,World.putObj_heap_other (by omega),World.putObj_heap_other (by omega)⟩) (Below.refl _ _) (fun _=>rfl)
  (fun pre W=>HI w pre W∧(Below w.heap.size w W∧∃cs:Array Value,W.heap[w.heap.size+1+1+1+1+1+1]?=some (.cells cs 36 (0,0)))) (fun c pre W=>HX w c pre W∧Below w.heap.size w W)
  (OwnFrom.and (Own.from (HI.own w) _) (OwnFrom.and (ownFrom_below (Nat.le_refl _) (zu B0).size) (fun s W W' row hs hg hr=>by
   obtain⟨cs,hc⟩:=hs
   exact⟨cs,(hg.block _ (Array.getElem?_eq_some_iff.1 hc).1 (fun e=>by have:=(hr _ e.symm).1;omega)).trans hc⟩)))
  (fun c=>OwnFrom.and (Own.from (HX.own w c) _) (ownFrom_below (Nat.le_refl _) (zu B0).size))
  ⟨zu I0,zu B0,_,zu P0⟩
  (fun y=>{tmps:= #[.agg #[.slice (some ⟨x.ga,0,none⟩) x.b.ac.length x.ca,.slice (some ⟨x.gi,0,none⟩) x.b.ic.length x.ci,.slice (some ⟨x.gb,0,none⟩) x.b.bs.length x.cb,.slice (some ⟨x.gl,0,none⟩) x.b.ls.length x.cl,.slice (some ⟨x.gt,0,none⟩) x.b.ts.length x.ct,.int .i64 x.b.lot],.int .i64 i,.pointer (some ⟨w.heap.size,0,none⟩),undef,.pointer (some ⟨w.heap.size+1,0,none⟩),.pointer (some ⟨w.heap.size+1+1,0,none⟩),.pointer (some ⟨w.heap.size+1+1+1+1+1,0,none⟩),.int .i64 y.1.1,.int .i64 y.1.2,undef,undef,.slice (some ⟨w.heap.size+1+1+1,0,none⟩) 0 0,.slice (some ⟨w.heap.size+1+1+1+1,0,none⟩) 0 0,.agg #[.slice (some ⟨w.heap.size+1+1+1,0,none⟩) 0 0,.slice (some ⟨w.heap.size+1+1+1+1,0,none⟩) 0 0,.int .i64 0],.agg #[.slice (some ⟨x.ga,0,none⟩) x.b.ac.length x.ca,.slice (some ⟨x.gi,0,none⟩) x.b.ic.length x.ci,.slice (some ⟨x.gb,0,none⟩) x.b.bs.length x.cb,.slice (some ⟨x.gl,0,none⟩) x.b.ls.length x.cl,.slice (some ⟨x.gt,0,none⟩) x.b.ts.length x.ct,.int .i64 x.b.lot],.int .i64 i,.func (.func 158) #[] #[.pointer (some ⟨w.heap.size+1+1+1+1+1+1,0,none⟩),.pointer (some ⟨w.heap.size+1+1+1+1+1+1+1,0,none⟩)],.int .i64 y.1.1,.int .i64 y.1.2,undef,undef,undef,undef,undef,undef,undef,undef,undef,undef,undef,undef,undef,undef,undef,undef,undef,undef,undef,undef,undef,undef,undef,undef,undef],defers:=[]}) ?assign ?body ?done ?stop
 case assign=>
  intro l y W K hK
  gi_wp2
  exact hK
 case body=>
  rintro l pre y W ⟨⟨⟨gA,cA,gB,cB,h1,h2,h3,h4,h5,h6⟩,ha,hr,ht,hs⟩,hB,hp⟩ hlt
  obtain⟨⟨y1,y2⟩,q1,q2⟩:=y
  have pl:pre.length+1≤1048576:=by omega
  have VA:=zh (show ∀q q',vals (pre++[⟨(y1,y2),q,q'⟩])=vals pre++[(y1,y2)] from fun q q'=>vals_append _ _)
  have SA:=zh (show sumH (vals pre++[(y1,y2)])=sumH (vals pre)+y2 from by rw[sumH_append];simp[sumH])
  have LA:=zh (show((vals pre).map Prod.fst).length=pre.length from by simp[vals])
  have LB:=zh (show((vals pre).map Prod.snd).length=pre.length from by simp[vals])
  obtain⟨z0,z1⟩:=zu ha
  obtain⟨xA,hxA⟩:∃xs,Hid ((vals pre).map Prod.fst=xs):=⟨_,zh rfl⟩
  obtain⟨xB,hxB⟩:∃xs,Hid ((vals pre).map Prod.snd=xs):=⟨_,zh rfl⟩
  rw[zu hxA] at h2 LA
  rw[zu hxB] at h3 LB
  obtain⟨n,hn⟩:∃n,Hid (pre.length=n):=⟨_,zh rfl⟩
  rw[zu hn] at h1 h2 h3 LA LB pl
  obtain⟨z,hz⟩:∃z,Hid (sumH (vals pre)=z):=⟨_,zh rfl⟩
  rw[zu hz] at h1 SA z0 z1
  dsimp only at q1 q2
  have hc:=h1.c2
  have H1:=zh h1
  have H2:=zh h2
  have H3:=zh h3
  have HRr:=zh hr
  have HT:=zh ht
  have HB:=zh hB
  have HP:=zh hp
  clear h1 h2 h3 hr ht hB hp ha
  by_cases hsum:z+y2≤1000000000000000
  ·have AM:=zh (show Small.Amt z∧Small.Amt y2∧Small.Amt (z+y2) from by unfold Small.Amt;omega)
   clear hsum
   gi_wp2_with (refine⟨trivial,?_⟩;gi_at_call 119;refine(CallsIn.inRound l (callsIn_wide.2 (Small.iAdd_yes z y2 _ (zu AM).1 (zu AM).2.1 (zu AM).2.2))).mono ?_;rintro e w' ⟨rfl,hw⟩;rw[hw];clear hw w')
   clear hc
   refine RoundT.region_inv2 [[],[0],[],[2],[1,3],[],[5],[],[7],[6,8],[],[4,9,10],[11]] (HeldR.Inv w W x i y1 y2 z n gA cA gB cB xA xB) (by kernel_rfl) (fun⟨_,_,hq⟩=>hq) (by kernel_rfl) (by kernel_rfl) (by kernel_rfl) ?_ ?_ ?_ ?_
   ·intro listed a W hI
    obtain⟨_,_,_,_,_,_,_,_,_,_,_,_,_,_,_,_,_,_,_,_,_,_,_,_,_,_,_,_,_,_,_,rfl,_⟩:=hI
    rfl
   ·have b3':=zu H1
    refine⟨false,false,false,false,false,false,false,false,false,false,false,false,false,undef,undef,undef,undef,undef,undef,undef,undef,undef,undef,undef,undef,gA,cA,xA,gB,cB,xB,rfl,rfl,⟨⟨(Below.refl _ _).drew,rfl,rfl⟩,KeepsOthers.drew _,zu HRr,zu HT,zu HP,hs⟩,⟨(fun e=>by cases e),(fun e=>by cases e),(fun e=>by cases e),(fun e=>by cases e),?_,fun _=>⟨rfl,rfl,rfl⟩,(fun e=>by cases e),(fun e=>by cases e)⟩,⟨(fun e=>by cases e),(fun e=>by cases e),(fun e=>by cases e),(fun e=>by cases e),?_,fun _=>⟨rfl,rfl,rfl⟩,(fun e=>by cases e),(fun e=>by cases e)⟩,⟨h4,h5,h6⟩,(fun e=>by cases e),(fun e=>by cases e),fun _=>zu H1,(fun e=>by cases e)⟩
    ·have:=zu H2
     rw[←zu LA] at this
     exact this
    ·have:=zu H3
     rw[←zu LB] at this
     exact this
   ·intro listed a V j hI hj hl hd
    replace hj:j<13:=hj
    obtain⟨b0,b1,b2,b3,b4,b5,b6,b7,b8,b9,b10,b11,b12,v31,v32,v33,v34,v35,v36,v37,v38,v39,v40,v41,v42,kA,dA,lA,kB,dB,lB,rfl,rfl,hC,hA,hBn,⟨s1,s2,s3⟩,e10,e11,e12f,e12t⟩:=hI
    have sz:=hC.s
    have lkA:=hA.o.lt
    have lkB:=hBn.o.lt
    rcases(show j=0∨j=1∨j=2∨j=3∨j=4∨j=5∨j=6∨j=7∨j=8∨j=9∨j=10∨j=11∨j=12 by omega) with rfl|rfl|rfl|rfl|rfl|rfl|rfl|rfl|rfl|rfl|rfl|rfl|rfl
    ·refine wpOp_of rfl rfl ?_
     go_simp
     exact⟨true,b1,b2,b3,b4,b5,b6,b7,b8,b9,b10,b11,b12,_,v32,v33,v34,v35,v36,v37,v38,v39,v40,v41,v42,kA,dA,lA,kB,dB,lB,rfl,rfl,hC,hA.addr,hBn,⟨s1,s2,s3⟩,e10,e11,e12f,e12t⟩
    ·have q1:b0=true:=hd 0 (by simp)
     have q2:=hA.e0 q1
     subst q2
     have n1:b1=false:=hl
     have n4:b4=false:=by
      cases h:b4
      ·rfl
      ·have:=hA.i1 h;rw[n1] at this;cases this
     have n12:b12=false:=by
      cases h:b12
      ·rfl
      ·have:=(e12t h).1.1;rw[n4] at this;cases this
     have cc:=(e12f n12).c0
     clear q1 n1 n4 n12
     refine wpOp_of rfl rfl ?_
     go_simp
     exact⟨b0,true,b2,b3,b4,b5,b6,b7,b8,b9,b10,b11,b12,_,_,v33,v34,v35,v36,v37,v38,v39,v40,v41,v42,kA,dA,lA,kB,dB,lB,rfl,rfl,hC,hA.load,hBn,⟨s1,s2,s3⟩,e10,e11,e12f,e12t⟩
    ·refine wpOp_of rfl rfl ?_
     go_simp
     exact⟨b0,b1,true,b3,b4,b5,b6,b7,b8,b9,b10,b11,b12,v31,v32,_,v34,v35,v36,v37,v38,v39,v40,v41,v42,kA,dA,lA,kB,dB,lB,rfl,rfl,hC,hA.mv,hBn,⟨s1,s2,s3⟩,e10,e11,e12f,e12t⟩
    ·have q1:b2=true:=hd 2 (by simp)
     have q2:=hA.e2 q1
     subst q2
     clear q1
     refine wpOp_of rfl rfl ?_
     go_simp
     exact⟨b0,b1,b2,true,b4,b5,b6,b7,b8,b9,b10,b11,b12,v31,v32,_,_,v35,v36,v37,v38,v39,v40,v41,v42,kA,dA,lA,kB,dB,lB,rfl,rfl,hC.alloc _,hA.made (by omega) (by omega),hBn.alloc _,⟨s1,s2,s3⟩,e10,e11,fun e=>(e12f e).alloc _,fun e=>⟨(e12t e).1,(e12t e).2.alloc _⟩⟩
    ·have q1:b1=true:=hd 1 (by simp)
     have q3:b3=true:=hd 3 (by simp)
     have q4:b4=false:=hl
     obtain⟨kk,kd,kl⟩:=hA.n4 q4
     obtain⟨s,u3,sc,sl,sk,sk',sf⟩:=hA.e3 q3
     have u1:=hA.e1 q1
     have ow0:=hA.o
     rw[kk,kd,kl,zu LA] at ow0
     obtain⟨g',c',V',hrun,ow,gr,hloc⟩:=run_one V w.heap.size gA n cA s y1 xA ow0 sc pl (by omega)
     have f11:b11=true→False:=fun e=>by have:=(e11 e).1.1;rw[q4] at this;cases this
     have n12:b12=false:=by
      cases h:b12
      ·rfl
      ·have:=(e12t h).1.1;rw[q4] at this;cases this
     have nn:=int_ne hC ow0
     have nf:=own_ne_b3 ow0 (e12f n12)
     have hC':=hC.keep gr (by omega) nn.1 nn.2.1 nn.2.2 (by omega) (fun o ho=>by
      obtain⟨cur,ec⟩:=own_cells ow0
      rw[ec] at ho;cases ho;rfl)
     subst u1 u3
     refine wpOp_of rfl rfl ?_
     refine wpo_append (.tmp 32) (.tmp 34) 43 rfl rfl rfl hrun ?_
     exact⟨b0,b1,b2,b3,true,b5,b6,b7,b8,b9,b10,b11,b12,v31,_,v33,_,_,v36,v37,v38,v39,v40,v41,v42,g',c',(xA++[y1]),kB,dB,lB,rfl,rfl,hC',hA.app (zu LA) gr ow hloc q4 q1,hBn.keep gr (fun e=>s1 (by omega)) (.inl (by omega)) (j:=g') (by omega),⟨by omega,by omega,by omega⟩,e10,fun e=>(f11 e).elim,fun e=>(e12f e).kept gr (fun e=>nf (by injection e with e;exact e.symm)),fun e=>by rw[n12] at e;cases e⟩
    ·refine wpOp_of rfl rfl ?_
     go_simp
     exact⟨b0,b1,b2,b3,b4,true,b6,b7,b8,b9,b10,b11,b12,v31,v32,v33,v34,v35,_,v37,v38,v39,v40,v41,v42,kA,dA,lA,kB,dB,lB,rfl,rfl,hC,hA,hBn.addr,⟨s1,s2,s3⟩,e10,e11,e12f,e12t⟩
    ·have q1:b5=true:=hd 5 (by simp)
     have q2:=hBn.e0 q1
     subst q2
     have n1:b6=false:=hl
     have n4:b9=false:=by
      cases h:b9
      ·rfl
      ·have:=hBn.i1 h;rw[n1] at this;cases this
     have n12:b12=false:=by
      cases h:b12
      ·rfl
      ·have:=(e12t h).1.2;rw[n4] at this;cases this
     have cc:=(e12f n12).c1
     clear q1 n1 n4 n12
     refine wpOp_of rfl rfl ?_
     go_simp
     exact⟨b0,b1,b2,b3,b4,b5,true,b7,b8,b9,b10,b11,b12,v31,v32,v33,v34,v35,_,_,v38,v39,v40,v41,v42,kA,dA,lA,kB,dB,lB,rfl,rfl,hC,hA,hBn.load,⟨s1,s2,s3⟩,e10,e11,e12f,e12t⟩
    ·refine wpOp_of rfl rfl ?_
     go_simp
     exact⟨b0,b1,b2,b3,b4,b5,b6,true,b8,b9,b10,b11,b12,v31,v32,v33,v34,v35,v36,v37,_,v39,v40,v41,v42,kA,dA,lA,kB,dB,lB,rfl,rfl,hC,hA,hBn.mv,⟨s1,s2,s3⟩,e10,e11,e12f,e12t⟩
    ·have q1:b7=true:=hd 7 (by simp)
     have q2:=hBn.e2 q1
     subst q2
     clear q1
     refine wpOp_of rfl rfl ?_
     go_simp
     exact⟨b0,b1,b2,b3,b4,b5,b6,b7,true,b9,b10,b11,b12,v31,v32,v33,v34,v35,v36,v37,_,_,v40,v41,v42,kA,dA,lA,kB,dB,lB,rfl,rfl,hC.alloc _,hA.alloc _,hBn.made (by omega) (by omega),⟨s1,s2,s3⟩,e10,e11,fun e=>(e12f e).alloc _,fun e=>⟨(e12t e).1,(e12t e).2.alloc _⟩⟩
    ·have q1:b6=true:=hd 6 (by simp)
     have q3:b8=true:=hd 8 (by simp)
     have q4:b9=false:=hl
     obtain⟨kk,kd,kl⟩:=hBn.n4 q4
     obtain⟨s,u3,sc,sl,sk,sk',sf⟩:=hBn.e3 q3
     have u1:=hBn.e1 q1
     have ow0:=hBn.o
     rw[kk,kd,kl,zu LB] at ow0
     obtain⟨g',c',V',hrun,ow,gr,hloc⟩:=run_one V w.heap.size gB n cB s y2 xB ow0 sc pl (by omega)
     have f11:b11=true→False:=fun e=>by have:=(e11 e).1.2;rw[q4] at this;cases this
     have n12:b12=false:=by
      cases h:b12
      ·rfl
      ·have:=(e12t h).1.2;rw[q4] at this;cases this
     have nn:=int_ne hC ow0
     have nf:=own_ne_b3 ow0 (e12f n12)
     have hC':=hC.keep gr (by omega) nn.1 nn.2.1 nn.2.2 (by omega) (fun o ho=>by
      obtain⟨cur,ec⟩:=own_cells ow0
      rw[ec] at ho;cases ho;rfl)
     subst u1 u3
     refine wpOp_of rfl rfl ?_
     refine wpo_append (.tmp 37) (.tmp 39) 43 rfl rfl rfl hrun ?_
     exact⟨b0,b1,b2,b3,b4,b5,b6,b7,b8,true,b10,b11,b12,v31,v32,v33,v34,v35,v36,_,v38,_,_,v41,v42,kA,dA,lA,g',c',(xB++[y2]),rfl,rfl,hC',hA.keep gr (fun e=>s1 (by omega)) (.inl (by omega)) (j:=g') (by omega),hBn.app (zu LB) gr ow hloc q4 q1,⟨by omega,by omega,by omega⟩,e10,fun e=>(f11 e).elim,fun e=>(e12f e).kept gr (fun e=>nf (by injection e with e;exact e.symm)),fun e=>by rw[n12] at e;cases e⟩
    ·refine wpOp_of rfl rfl ?_
     go_simp
     exact⟨b0,b1,b2,b3,b4,b5,b6,b7,b8,b9,true,b11,b12,v31,v32,v33,v34,v35,v36,v37,v38,v39,v40,_,v42,kA,dA,lA,kB,dB,lB,rfl,rfl,hC,hA,hBn,⟨s1,s2,s3⟩,fun _=>rfl,e11,e12f,e12t⟩
    ·have q4:b4=true:=hd 4 (by simp)
     have q9:b9=true:=hd 9 (by simp)
     have q10:b10=true:=hd 10 (by simp)
     have u41:=e10 q10
     obtain⟨u35,l35⟩:=hA.y4 q4
     obtain⟨u40,l40⟩:=hBn.y4 q9
     subst u41 u35 u40
     clear l35 l40
     have QQ:=zh (show b4=true∧b9=true from⟨q4,q9⟩)
     clear q4 q9 q10
     refine wpOp_of rfl rfl ?_
     go_simp
     exact⟨b0,b1,b2,b3,b4,b5,b6,b7,b8,b9,b10,true,b12,v31,v32,v33,v34,_,v36,v37,v38,v39,_,_,_,kA,dA,lA,kB,dB,lB,rfl,rfl,hC,hA,hBn,⟨s1,s2,s3⟩,e10,fun _=>⟨zu QQ,rfl⟩,e12f,e12t⟩
    ·have q11:b11=true:=hd 11 (by simp)
     have n12:b12=false:=hl
     obtain⟨⟨q4,q9⟩,u42⟩:=e11 q11
     obtain⟨u35,l35⟩:=hA.y4 q4
     obtain⟨u40,l40⟩:=hBn.y4 q9
     have hb3:=e12f n12
     have r0:=hb3.c0
     have r1:=hb3.c1
     have r2:=hb3.c2
     have f0:=hb3.free 0
     have f1:=hb3.free 1
     have f2:=hb3.free 2
     have nA:=own_ne_b3 hA.o hb3
     have nB:=own_ne_b3 hBn.o hb3
     subst u42 u35 u40
     have QQ:=zh (show b4=true∧b9=true from⟨q4,q9⟩)
     clear q4 q9 q11 n12 l35 l40
     refine wpOp_of rfl rfl ?_
     go_simp
     exact⟨b0,b1,b2,b3,b4,b5,b6,b7,b8,b9,b10,b11,true,v31,v32,v33,v34,_,v36,v37,v38,v39,_,v41,_,kA,dA,lA,kB,dB,lB,rfl,rfl,hC.keep (three_grown _ _ _ _ _) (by omega) (by omega) (by omega) (by omega) (by omega) (fun o ho=>by rw[show V.heap[w.heap.size+1+1+1+1+1]?=_ from hb3] at ho;cases ho;rfl),hA.keep (three_grown _ _ _ _ _) nA (.inr rfl) (.inl rfl),hBn.keep (three_grown _ _ _ _ _) nB (.inr rfl) (.inl rfl),⟨s1,s2,s3⟩,e10,fun _=>⟨zu QQ,rfl⟩,(fun e=>by cases e),fun _=>⟨zu QQ,hb3.three _ _ _⟩⟩
   ·intro listed a V hI hall
    obtain⟨b0,b1,b2,b3,b4,b5,b6,b7,b8,b9,b10,b11,b12,v31,v32,v33,v34,v35,v36,v37,v38,v39,v40,v41,v42,kA,dA,lA,kB,dB,lB,rfl,rfl,hC,hA,hBn,⟨s1,s2,s3⟩,e10,e11,e12f,e12t⟩:=hI
    have t12:b12=true:=hall 12 (by decide)
    obtain⟨⟨t4,t9⟩,hb3⟩:=e12t t12
    obtain⟨a1,a2⟩:=hA.y4 t4
    obtain⟨c1,c2⟩:=hBn.y4 t9
    have hoA:=hA.o
    have hoB:=hBn.o
    subst a1 c1 a2 c2
    refine⟨hC.f.from _,hC.k,⟨⟨kA,dA,kB,dB,?_,?_,?_,s1,s2,s3⟩,zh ?_,hC.r,hC.t,hC.s⟩,(zu HB).trans hC.k.1,hC.p⟩
    ·have e1:(xA++[y1]).length=n+1:=by simp[zu LA]
     have e2:(xB++[y2]).length=n+1:=by simp[zu LB]
     rw[e1,e2] at hb3
     simp only[List.length_append,List.length_cons,List.length_nil,Nat.zero_add]
     rw[zu hn,zu VA q1 q2,zu SA]
     exact hb3
    ·have e1:(xA++[y1]).length=n+1:=by simp[zu LA]
     rw[e1] at hoA
     simp only[List.length_append,List.length_cons,List.length_nil,Nat.zero_add]
     rw[zu hn,zu VA q1 q2,List.map_append,zu hxA]
     exact hoA
    ·have e2:(xB++[y2]).length=n+1:=by simp[zu LB]
     rw[e2] at hoB
     simp only[List.length_append,List.length_cons,List.length_nil,Nat.zero_add]
     rw[zu hn,zu VA q1 q2,List.map_append,zu hxB]
     exact hoB
    ·rw[zu VA q1 q2,zu SA]
     have:=(zu AM).2.2
     unfold Small.Amt at this
     omega
  ·have AM:=zh (show Small.Bad z y2 (z+y2) from by unfold Small.Bad Small.NoAmt Small.Amt;omega)
   have HS:=zh hsum
   clear hsum
   have HR2:=zh (((zu HRr).alloc (.cells #[] 3)).alloc (.cells #[] 3))
   have HT2:=zh (((zu HT).alloc (.cells #[] 3)).alloc (.cells #[] 3))
   have r0:=(zu HR2).c0
   have r1:=(zu HR2).c1
   have r2:=(zu HR2).c2
   have f0:=(zu HR2).free 0
   have f1:=(zu HR2).free 1
   have f2:=(zu HR2).free 2
   have t0:=(zu HT2).cell
   have tf:=(zu HT2).frozen
   gi_wp2_with (refine⟨trivial,?_⟩;gi_at_call 119;refine(CallsIn.inRound l (callsIn_wide.2 (Small.iAdd_no z y2 _ (zu AM)))).mono ?_;rintro e w' ⟨rfl,hw⟩;rw[hw];clear hw w')
   obtain⟨m1,m2,m3⟩:=HX.made (pre:=pre++[⟨(y1,y2),q1,q2⟩]) (zu HRr) (zu HT) (zu HB) hs (by rw[zu VA q1 q2,zu SA];have:=zu HS;omega)
   exact⟨m1.from _,m2,m3⟩
 case done=>
  rintro D' ys W hD hS ⟨⟨⟨gA,cA,gB,cB,h1,h2,h3,h4,h5,h6⟩,ha,hr,ht,hs⟩,hB,hp⟩ hK
  have HS:=zh (show vals ys=heldL x.b.bs i x.b.ac from by rw[held_eq (zu OK)];exact hS)
  have LA:=zh (show((vals ys).map Prod.fst).length=ys.length from by simp[vals])
  have LB:=zh (show((vals ys).map Prod.snd).length=ys.length from by simp[vals])
  obtain⟨n,hn⟩:∃n,Hid (ys.length=n):=⟨_,zh rfl⟩
  rw[zu hn] at h1 h2 h3 LA LB
  obtain⟨z,hz⟩:∃z,Hid (sumH (vals ys)=z):=⟨_,zh rfl⟩
  rw[zu hz] at h1 ha
  have r0:=hr.c0
  have r1:=hr.c1
  have r2:=hr.c2
  have f0:=hr.free 0
  have f1:=hr.free 1
  have f2:=hr.free 2
  have t0:=ht.cell
  have tf:=ht.frozen
  have k0:=h1.c0
  have k1:=h1.c1
  have k2:=h1.c2
  have g3:=zh (three_grown W (w.heap.size+1) (.slice (some ⟨gA,0,none⟩) n cA) (.slice (some ⟨gB,0,none⟩) n cB) (.int .i64 z))
  have b3:=zh (hr.three (.slice (some ⟨gA,0,none⟩) n cA) (.slice (some ⟨gB,0,none⟩) n cB) (.int .i64 z))
  have g4:=zh (grownBy_setCell' (((W.setCell ⟨w.heap.size+1,0,none⟩ (.slice (some ⟨gA,0,none⟩) n cA)).setCell ⟨w.heap.size+1,1,none⟩ (.slice (some ⟨gB,0,none⟩) n cB)).setCell ⟨w.heap.size+1,2,none⟩ (.int .i64 z)) (w.heap.size+1+1) (.bool true))
  have b4:=zh ((zu b3).kept (zu g4) (fun e=>by injection e with e;omega))
  have t4:=zh ((ht.kept (zu g3) (fun e=>by injection e with e;omega)).set (.bool true))
  have nA:=own_ne_b3 h2 hr
  have nB:=own_ne_b3 h3 hr
  have mA:gA≠w.heap.size+1+1:=fun e=>by
   obtain⟨cur,ec⟩:=own_cells h2
   rw[e,show W.heap[w.heap.size+1+1]?=_ from ht] at ec
   injection ec with ec
   injection ec with e1 e2
   revert e2
   decide
  have mB:gB≠w.heap.size+1+1:=fun e=>by
   obtain⟨cur,ec⟩:=own_cells h3
   rw[e,show W.heap[w.heap.size+1+1]?=_ from ht] at ec
   injection ec with ec
   injection ec with e1 e2
   revert e2
   decide
  have o2:=zh ((h2.kept (zu g3) (fun e=>by injection e with e;exact nA e)).kept (zu g4) (fun e=>by injection e with e;exact mA e))
  have o3:=zh ((h3.kept (zu g3) (fun e=>by injection e with e;exact nB e)).kept (zu g4) (fun e=>by injection e with e;exact mB e))
  have bw:=zh ((hB.grown (zu g3) hB.size (fun k e=>by injection e with e;omega)).grown (zu g4) (by have:=hB.size;have:=(zu g3).size;omega) (fun k e=>by injection e with e;omega))
  have hK':=zh ((((((KeepsOthers.setCell W ⟨w.heap.size+1,0,none⟩ (.slice (some ⟨gA,0,none⟩) n cA)).trans (KeepsOthers.setCell _ ⟨w.heap.size+1,1,none⟩ (.slice (some ⟨gB,0,none⟩) n cB))).trans (KeepsOthers.setCell _ ⟨w.heap.size+1,2,none⟩ (.int .i64 z)))).trans (KeepsOthers.setCell _ ⟨w.heap.size+1+1,0,none⟩ (.bool true))).same D' _ hK rfl)
  have HK:=zh (show(0≤z∧z≤1000000000000000) from zu ha)
  have sw:=(zu B0).size
  clear hS h1 h2 h3 hr ht hB hp hK ha g3 b3 g4
  gi_wp2
  generalize (((W.setCell ⟨w.heap.size+1,0,none⟩ (.slice (some ⟨gA,0,none⟩) n cA)).setCell ⟨w.heap.size+1,1,none⟩ (.slice (some ⟨gB,0,none⟩) n cB)).setCell ⟨w.heap.size+1,2,none⟩ (.int .i64 z)).setCell ⟨w.heap.size+1+1,0,none⟩ (.bool true)=V at *
  refine⟨by simp,.inl ⟨_,_,rfl,run_takeDeferred (zu hK'),?_⟩⟩
  have gp:=grownBy_putObj' V D' (.deferred none)
  have x3:=(zu b4).kept gp (fun e=>by injection e with e;exact(zu b4).notCells (zu hK') rfl e)
  have xt:Boxed _ _ _ _:=(zu t4).kept gp (fun e=>by
   injection e with e
   have:=zu hK'
   rw[←e,show V.heap[w.heap.size+1+1]?=_ from zu t4] at this
   cases this)
  have x0:=x3.c0
  have x1:=x3.c1
  have x2:=x3.c2
  have xc:=xt.cell
  refine⟨.tuple #[.agg #[.slice (some ⟨gA,0,none⟩) n cA,.slice (some ⟨gB,0,none⟩) n cB,.int .i64 z],.bool true],by simp[results,Tryz.results69,go_sem,x0,x1,x2,xc],(vals ys).map Prod.fst,(vals ys).map Prod.snd,z,true,gA,cA,gB,cB,.inl ⟨⟨zu OK,?_⟩,?_,?_,?_,rfl⟩,by simp,by rw[zu LA,zu LB],?_,?_,h4,(zu bw).trans (belowK_b (w:=w) (Nat.le_refl _) V D' _ _ (by omega) (zu hK') rfl rfl)⟩
  ·rw[←zu HS,zu hz]
   have:=zu HK
   unfold Amt
   omega
  ·rw[zu HS]
  ·rw[zu HS]
  ·rw[←zu HS,zu hz]
  ·rw[zu LA];exact ownsRow_putObj (zu o2) _ (zu hK') rfl
  ·rw[zu LB];exact ownsRow_putObj (zu o3) _ (zu hK') rfl
 case stop=>
  rintro D' c pre W hD hS ⟨⟨rfl,⟨gA,gB,h1,h2,h3,h4⟩,ha,ht⟩,hB⟩ hK
  have NO:=zh (show ¬(Ok x.b∧Amt (sumH (heldL x.b.bs i x.b.ac))) from fun hh=>by
   have a:=sum_part hS (pos_all (zu OK))
   have b:=zu ha
   have c:=hh.2
   rw[held_eq (zu OK)] at c
   unfold Amt at c
   omega)
  have sw:=(zu B0).size
  clear hS
  gi_wp2
  refine⟨by simp,.inl ⟨_,_,rfl,run_takeDeferred hK,?_⟩⟩
  have gp:=grownBy_putObj' W D' (.deferred none)
  have x3:=h1.kept gp (fun e=>by injection e with e;exact h1.notCells hK rfl e)
  have xt:Boxed _ _ _ _:=ht.kept gp (fun e=>by
   injection e with e
   have:=hK
   rw[←e,show W.heap[w.heap.size+1+1]?=_ from ht] at this
   cases this)
  have x0:=x3.c0
  have x1:=x3.c1
  have x2:=x3.c2
  have xc:=xt.cell
  exact⟨.tuple #[.agg #[.slice (some ⟨gA,0,none⟩) 0 0,.slice (some ⟨gB,0,none⟩) 0 0,.int .i64 0],.bool false],by simp[results,Tryz.results69,go_sem,x0,x1,x2,xc],[],[],0,false,gA,0,gB,0,.inr ⟨zu NO,rfl,rfl,rfl,rfl⟩,rfl,rfl,ownsRow_putObj h2 _ hK rfl,ownsRow_putObj h3 _ hK rfl,h4,hB.trans (belowK_b (w:=w) (Nat.le_refl _) W D' _ _ (by omega) hK rfl rfl)⟩
end HeldI
namespace LegsI
open BMem Bks ILists BHelp HeldP SHeld Pay HeldC
open Parts (STells)
open IBalsFit (one_more St)
open Lots (Says says_of NoOk)
open Bals (T3)
open Triples (Own3 At3 Holds3)
theorem tot_next{ps:List Int}{k:Nat}(h:k<ps.length):tot (ps.take (k+1))=tot (ps.take k)+ps.getD k 0:=by
 rw[List.take_succ_eq_append_getElem h,tot_append]
 simp[tot,List.getD,h]
theorem tot_bd{ps:List Int}(hb:∀p∈ps,-1000000000000000≤p∧p≤1000000000000000):∀k,k≤ps.length→-(1000000000000000*(k:Int))≤tot (ps.take k)∧tot (ps.take k)≤1000000000000000*(k:Int)
 |0,_=>by simp[tot]
 |k+1,h=>by
  have a:=tot_bd hb k (by omega)
  have m:ps.getD k 0∈ps:=by simp[List.getD,show k<ps.length by omega]
  have b:=hb _ m
  rw[tot_next (by omega)]
  omega
theorem iLegsTo(w:World)(g1 c1 g2 n2 c2 ga ca n:Nat)(all gv i:Int)(who ps:List Int)(hn:n≤20)(l1:who.length=n)(l2:ps.length=n)(hg1:g1<w.heap.size)(hga:ga<w.heap.size)(hw:Ints.At w g1 who)(hp:Ints.At w ga ps)(hb:∀p∈ps,-1000000000000000≤p∧p≤1000000000000000):
  Calls Tryz.prog 131 #[.agg #[.slice (some ⟨g1,0,none⟩) n c1,.slice (some ⟨g2,0,none⟩) n2 c2,.int .i64 all],.slice (some ⟨ga,0,none⟩) n ca,.int .i64 gv,.int .i64 i] w fun e w'=>∃g c,e= .returned (.slice (some ⟨g,0,none⟩) (n+1) c)∧Own3 80 w' w.heap.size g (n+1) c (legsW i who ps++[(gv,i,-(tot ps))])∧Below w.heap.size w w':=by
 have HW:=zh hw
 have HP:=zh hp
 have TB:=zh (tot_bd hb)
 have N1:=zh l1
 have N2:=zh l2
 clear l1 l2 hw hp hb
 have O0:=Triples.lit30 80 (w.alloc (.cells #[.slice (some ⟨g1,0,none⟩) n c1,.slice (some ⟨g2,0,none⟩) n2 c2,.int .i64 all] 94)) w.heap.size (by simp)
 rw[World.size_alloc] at O0
 have OL0:=zh O0
 have B0:=zh (((Below.refl w.heap.size w).alloc (Nat.le_refl _) (.cells #[.slice (some ⟨g1,0,none⟩) n c1,.slice (some ⟨g2,0,none⟩) n2 c2,.int .i64 all] 94)).alloc (by simp) (.cells #[] 80))
 clear O0
 go_enter Tryz.func131,Tryz.ntmps131
 go_wp2
 go_loopw [9,10,17] (fun l s j wr=>∃(ls:List T3) (g c k:Nat) (z:Int),l= .slice (some ⟨g,0,none⟩) k c∧s= .int .i64 z∧j= .int .i64 k∧k≤n∧Hid (ls=legsW i (who.take k) (ps.take k))∧Hid (z=tot (ps.take k))∧Hid (Own3 80 wr w.heap.size g k c ls)∧Hid (Below w.heap.size w wr)) (fun _ _ j _=>n-(intOf j).toNat)
 case atStart=>exact⟨[],w.heap.size+1,0,0,0,rfl,rfl,rfl,by omega,zh (by simp[legsW]),zh (by simp[tot]),OL0,B0⟩
 case round=>
  clear OL0 B0
  obtain⟨ls,g,c,k,z,rfl,rfl,rfl,hk,HL,HZ,OL,HB⟩:=hrel
  have wz1:=(zu HB).size
  have zb:=(zu TB) k (by rw[zu N2];exact hk)
  rw[←zu HZ] at zb
  have kb:(k:Int)≤20:=by omega
  by_cases t:k<n
  ·have e0:=((zu HW).below (zu HB) hg1) k (by rw[zu N1];exact t)
   have e1:=((zu HP).below (zu HB) hga) k (by rw[zu N2];exact t)
   have TN:=zh (legsW_next (i:=i) (who:=who) (ps:=ps) (k:=k) (by rw[zu N1];exact t) (by rw[zu N1,zu N2]))
   have SN:=zh (tot_next (ps:=ps) (k:=k) (by rw[zu N2];exact t))
   have zb':=(zu TB) (k+1) (by rw[zu N2];omega)
   rw[zu SN,←zu HZ] at zb'
   obtain⟨y0,hy0⟩:∃q,Hid (who.getD k 0=q):=⟨_,rfl⟩
   obtain⟨y2,hy2⟩:∃q,Hid (ps.getD k 0=q):=⟨_,rfl⟩
   rw[zu hy0] at e0 TN
   rw[zu hy2] at e1 TN SN zb'
   have WR:IntKind.i64.wrap (z+y2)=z+y2:=by rw[IntKind.wrap_i64];omega
   clear hy0 hy2 zb zb'
   have AO:=zh (one_more wr (.cells #[.int .i64 y0,.int .i64 i,.int .i64 y2] 80))
   have f0:=((zu AO).cell (p:=⟨g1,k,none⟩) (show g1<wr.heap.size by omega)).trans e0
   have f1:=((zu AO).cell (p:=⟨ga,k,none⟩) (show ga<wr.heap.size by omega)).trans e1
   have OG5:=zh ((zu OL).alloc (.cells #[.int .i64 y0,.int .i64 i,.int .i64 y2] 80))
   have X5:=zh (show Holds3 (wr.alloc (.cells #[.int .i64 y0,.int .i64 i,.int .i64 y2] 80)) wr.heap.size 0 (y0,i,y2) from by simp[Holds3])
   have lg:=(zu OL).lt
   have ne1:some g1≠some g:=fun e=>by injection e;omega
   have ne2:some ga≠some g:=fun e=>by injection e;omega
   have i2:(k:Int)<(n:Int):=by omega
   go_wp2_with (first|(at_builtin;refine LegApp.wp_app _ rfl _ _ rfl w.heap.size g k c ls wr.heap.size y0 i y2 rfl rfl (zu OG5) (zu X5) (by omega) (by simp;omega) ?_;intro g' c' w' o5 gr5 loc5;have O5:=zh o5;have B5:=zh (((zu HB).trans ((zu AO).mono wz1)).grown gr5 (by simp;omega) (fun j e=>by injection e;omega));have h1:=gr5.cell f1 ne2;clear o5 gr5 loc5))
   go_roundw
   case rel=>exact⟨ls++[(y0,i,y2)],g',c',k+1,z+y2,rfl,rfl,by go_num,by omega,zh (by rw[zu TN,zu HL]),zh (by rw[zu SN,←zu HZ]),O5,B5⟩
   case measure=>simp[intOf];omega
  ·obtain rfl:k=n:=by omega
   have EL:=zh (show ls=legsW i who ps from by rw[zu HL,List.take_of_length_le (by rw[zu N1];exact Nat.le_refl _),List.take_of_length_le (by rw[zu N2];exact Nat.le_refl _)])
   have EZ:=zh (show z=tot ps from by rw[zu HZ,List.take_of_length_le (by rw[zu N2];exact Nat.le_refl _)])
   have NG:IntKind.i64.wrap (-z)= -z:=by rw[IntKind.wrap_i64];omega
   have AO:=zh (one_more wr (.cells #[.int .i64 gv,.int .i64 i,.int .i64 (-z)] 80))
   have OG5:=zh ((zu OL).alloc (.cells #[.int .i64 gv,.int .i64 i,.int .i64 (-z)] 80))
   have X5:=zh (show Holds3 (wr.alloc (.cells #[.int .i64 gv,.int .i64 i,.int .i64 (-z)] 80)) wr.heap.size 0 (gv,i,-z) from by simp[Holds3])
   have lg:=(zu OL).lt
   clear zb t
   go_wp2_with (first|(at_builtin;refine LegApp.wp_app _ rfl _ _ rfl w.heap.size g k c ls wr.heap.size gv i (-z) rfl rfl (zu OG5) (zu X5) (by omega) (by simp;omega) ?_;intro g' c' w' o5 gr5 loc5;have O5:=zh o5;have B5:=zh (((zu HB).trans ((zu AO).mono wz1)).grown gr5 (by simp;omega) (fun j e=>by injection e;omega));clear o5 gr5 loc5))
   go_ret
   exact⟨g',c',rfl,by rw[←zu EL,←zu EZ];exact zu O5,zu B5⟩
theorem legsL_len{i gv:Int}{who ps:List Int}(hl:ps.length=who.length):(legsW i who ps++[(gv,i,-(tot ps))]).length=who.length+1:=by
 rw[List.length_append,legsW_len hl];rfl
theorem sumI_app(j:Int):∀(xs ys:List T3),Bals.sumI (xs++ys) j=Bals.sumI xs j+Bals.sumI ys j
 |[],ys=>by simp[Bals.sumI]
 |x::r,ys=>by
  have:=sumI_app j r ys
  simp only[Bals.sumI,List.cons_append] at this⊢
  omega
theorem legsL_even{i gv:Int}{who ps:List Int}(hl:ps.length=who.length):Bals.Even (legsW i who ps++[(gv,i,-(tot ps))]):=by
 intro j
 rw[sumI_app,legsW_sum i j who ps hl]
 simp only[Bals.sumI]
 split<;>omega
theorem legsL_formed{i gv:Int}{who ps:List Int}(h1:NoOk gv)(h2:NoOk i)(hl:ps.length=who.length)(h20:who.length≤20)(hw:∀a∈who,NoOk a)(hp:∀p∈ps,-1000000000000000≤p∧p≤1000000000000000)(ht: -1000000000000000≤tot ps∧tot ps≤1000000000000000):Bals.Formed (legsW i who ps++[(gv,i,-(tot ps))]):=by
 refine⟨by rw[legsL_len hl];omega,fun k hk=>?_⟩
 have m:Bals.el3 (legsW i who ps++[(gv,i,-(tot ps))]) k∈legsW i who ps++[(gv,i,-(tot ps))]:=Bals.getD_mem hk
 unfold Bals.LegOk
 generalize Bals.el3 (legsW i who ps++[(gv,i,-(tot ps))]) k=q at m
 rcases List.mem_append.1 m with m|m
 ·obtain⟨a,e,p⟩:=legsW_mem m
  have:=hp _ p
  exact⟨hw _ a,by rw[e];exact h2,this⟩
 ·obtain rfl:q=(gv,i,-(tot ps)):=by simpa using m
  exact⟨h1,h2,by simp only;omega,by simp only;omega⟩
theorem sh_ok{t:Int}{what ps:List Int}{ok:Bool}(hG:Weigh.Good what)(ht:Quota.Tot t)(h:STells t what ps ok):ok=true:=by
 rcases h with⟨_,_,e,_⟩|h
 ·exact e
 ·exact absurd ⟨hG,ht⟩ h.1
theorem held_zero{b:Bk}{i all:Int}{who what:List Int}(h:IsHeld b i who what all true):all=0↔who=[]:=by
 rcases h with⟨⟨hok,hs⟩,rfl,rfl,rfl,_⟩|⟨_,_,_,_,e⟩
 ·constructor
  ·intro e
   cases hh:heldL b.bs i b.ac with
   |nil=>rfl
   |cons p r=>
    exfalso
    have pos:∀q∈heldL b.bs i b.ac,1≤q.2:=fun q hq=>by have:=(heldL_mem.1 hq).2.2;omega
    have a:=sum_part (List.nil_prefix (l:=r)) (fun q hq=>pos q (by rw[hh];simp[hq]))
    have c:=pos p (by rw[hh];simp)
    rw[hh] at e
    simp only[sumH] at e a
    omega
  ·intro e
   have:heldL b.bs i b.ac=[]:=List.map_eq_nil_iff.1 e
   rw[this];rfl
 ·cases e
def SomeC(who:List Int)(ok:Bool)(c:Int):Prop:=(ok=false∧c=8)∨(ok=true∧who=[]∧c=5)∨(ok=true∧who≠[]∧c=0)
theorem iSome(w:World)(x:Bx)(i:Int)(h:Rd w x)(ok:Ok x.b):
  Calls Tryz.prog 129 #[.agg #[.slice (some ⟨x.ga,0,none⟩) x.b.ac.length x.ca,.slice (some ⟨x.gi,0,none⟩) x.b.ic.length x.ci,.slice (some ⟨x.gb,0,none⟩) x.b.bs.length x.cb,.slice (some ⟨x.gl,0,none⟩) x.b.ls.length x.cl,.slice (some ⟨x.gt,0,none⟩) x.b.ts.length x.ct,.int .i64 x.b.lot],.int .i64 i] w fun e w'=>∃(who what:List Int) (all:Int) (okb:Bool) (g1 c1 g2 c2:Nat) (c:Int),IsHeld x.b i who what all okb∧who.length=what.length∧e= .returned (.tuple #[.agg #[.slice (some ⟨g1,0,none⟩) who.length c1,.slice (some ⟨g2,0,none⟩) what.length c2,.int .i64 all],.int .i64 c])∧SomeC who okb c∧Ints.Own w' w.heap.size g1 who.length c1 who∧Ints.Own w' w.heap.size g2 what.length c2 what∧g1≠g2∧Below w.heap.size w w':=by
 have OK:=zh ok
 have S0:=zh ((St.start h 36).step (one_more _ (.cells #[.slice none 0 0,.slice none 0 0,.int .i64 0] 94)))
 have R0:=zh (show B3 ((w.alloc (.cells #[.slice (some ⟨x.ga,0,none⟩) x.b.ac.length x.ca,.slice (some ⟨x.gi,0,none⟩) x.b.ic.length x.ci,.slice (some ⟨x.gb,0,none⟩) x.b.bs.length x.cb,.slice (some ⟨x.gl,0,none⟩) x.b.ls.length x.cl,.slice (some ⟨x.gt,0,none⟩) x.b.ts.length x.ct,.int .i64 x.b.lot] 36)).alloc (.cells #[.slice none 0 0,.slice none 0 0,.int .i64 0] 94)) (w.heap.size+1) (.slice none 0 0) (.slice none 0 0) (.int .i64 0) from by
  have:=B3.new (w.alloc (.cells #[.slice (some ⟨x.ga,0,none⟩) x.b.ac.length x.ca,.slice (some ⟨x.gi,0,none⟩) x.b.ic.length x.ci,.slice (some ⟨x.gb,0,none⟩) x.b.bs.length x.cb,.slice (some ⟨x.gl,0,none⟩) x.b.ls.length x.cl,.slice (some ⟨x.gt,0,none⟩) x.b.ts.length x.ct,.int .i64 x.b.lot] 36)) (.slice none 0 0) (.slice none 0 0) (.int .i64 0)
  rwa [World.size_alloc] at this)
 clear h ok
 go_enter Tryz.func129,Tryz.ntmps129
 go_wp2_with fail
 refine(HeldI.iHeldM _ x i (zu S0).r (zu OK)).mono ?_
 rintro e w2 ⟨who,what,all,okb,g1,k1,g2,k2,hI,hl,rfl,o1,o2,ne,bb⟩
 have S2:=zh ((zu S0).step bb)
 have R2:=zh ((zu R0).below bb (zu R0).lt)
 have sw:=(zu S0).s
 have HI:=zh hI
 have HL:=zh hl
 have O1:=zh (o1.mono (by simp at sw⊢;omega:w.heap.size≤_))
 have O2:=zh (o2.mono (by simp at sw⊢;omega:w.heap.size≤_))
 have r0:=(zu R2).c0
 have r1:=(zu R2).c1
 have r2:=(zu R2).c2
 have f0:=(zu R2).free 0
 have f1:=(zu R2).free 1
 have f2:=(zu R2).free 2
 have rl:=(zu R2).lt
 have rn:w.heap.size+1≠w2.heap.size:=by omega
 have nA:=own_ne_b3 o1 (zu R2)
 have nB:=own_ne_b3 o2 (zu R2)
 have g3:=zh (three_grown w2 (w.heap.size+1) (.slice (some ⟨g1,0,none⟩) who.length k1) (.slice (some ⟨g2,0,none⟩) what.length k2) (.int .i64 all))
 have b3:=zh (((zu R2).three (.slice (some ⟨g1,0,none⟩) who.length k1) (.slice (some ⟨g2,0,none⟩) what.length k2) (.int .i64 all)).alloc (.cells #[.slice (some ⟨g1,0,none⟩) who.length k1,.slice (some ⟨g2,0,none⟩) what.length k2,.int .i64 all] 94))
 have EO1:=zh (Ints.Own.below ((zu O1).kept (zu g3) (fun e=>nA (by injection e))) (one_more _ (.cells #[.slice (some ⟨g1,0,none⟩) who.length k1,.slice (some ⟨g2,0,none⟩) what.length k2,.int .i64 all] 94)) (Nat.lt_of_lt_of_le (zu O1).lt.2 (zu g3).size))
 have EO2:=zh (Ints.Own.below ((zu O2).kept (zu g3) (fun e=>nB (by injection e))) (one_more _ (.cells #[.slice (some ⟨g1,0,none⟩) who.length k1,.slice (some ⟨g2,0,none⟩) what.length k2,.int .i64 all] 94)) (Nat.lt_of_lt_of_le (zu O2).lt.2 (zu g3).size))
 have EB:=zh (((zu S2).b.grown (zu g3) (zu S2).b.size (fun k e=>by injection e with e;omega)).alloc (Nat.le_trans (zu S2).b.size (zu g3).size) (.cells #[.slice (some ⟨g1,0,none⟩) who.length k1,.slice (some ⟨g2,0,none⟩) what.length k2,.int .i64 all] 94))
 clear hI hl o1 o2 bb S0 R0
 cases okb
 ·have x0:=(zu b3).c0
  have x1:=(zu b3).c1
  have x2:=(zu b3).c2
  go_wp2
  exact bodyPost_ret (v:= .tuple #[.agg #[.slice (some ⟨g1,0,none⟩) who.length k1,.slice (some ⟨g2,0,none⟩) what.length k2,.int .i64 all],.int .i64 8]) (by simp[results,Tryz.results129,go_sem,x0,x1,x2]) rfl ⟨who,what,all,false,g1,k1,g2,k2,8,zu HI,zu HL,rfl,.inl ⟨rfl,rfl⟩,zu EO1,zu EO2,ne,zu EB⟩
 have ZE:=zh (held_zero (zu HI))
 by_cases z:all=0
 ·have ZW:=zh ((zu ZE).1 z)
  subst z
  have zb:((0:Int)==0)=true:=by simp
  have x0:=(zu b3).c0
  have x1:=(zu b3).c1
  have x2:=(zu b3).c2
  go_wp2
  exact bodyPost_ret (v:= .tuple #[.agg #[.slice (some ⟨g1,0,none⟩) who.length k1,.slice (some ⟨g2,0,none⟩) what.length k2,.int .i64 0],.int .i64 5]) (by simp[results,Tryz.results129,go_sem,x0,x1,x2]) rfl ⟨who,what,0,true,g1,k1,g2,k2,5,zu HI,zu HL,rfl,.inr (.inl ⟨rfl,zu ZW,rfl⟩),zu EO1,zu EO2,ne,zu EB⟩
 ·have x0:=(zu b3).c0
  have x1:=(zu b3).c1
  have x2:=(zu b3).c2
  have zb:(all==0)=false:=by simpa using z
  have ZW:=zh (show who≠[] from fun e=>z ((zu ZE).2 e))
  clear z
  go_wp2
  exact bodyPost_ret (v:= .tuple #[.agg #[.slice (some ⟨g1,0,none⟩) who.length k1,.slice (some ⟨g2,0,none⟩) what.length k2,.int .i64 all],.int .i64 0]) (by simp[results,Tryz.results129,go_sem,x0,x1,x2]) rfl ⟨who,what,all,true,g1,k1,g2,k2,0,zu HI,zu HL,rfl,.inr (.inr ⟨rfl,zu ZW,rfl⟩),zu EO1,zu EO2,ne,zu EB⟩
end LegsI
namespace PayI
open BMem Bks ILists BHelp Ans ICopied ICmdB IHave SBk HeldP SHeld Pay HeldC LegsI
open Parts (STells)
open SIssue (posted_small ne_true ne_false eq_true eq_false)
open IBalsFit (one_more all_one St)
open ITrade (at_new)
open Lots (Says says_of NoOk)
open Bals (T3)
open Triples (Own3 At3)
open FxI (DoneP Keeps)
theorem iSh(w:World)(t:Int)(g1 n1 c1 g2 n c2:Nat)(all:Int)(what:List Int)(hl:what.length=n)(h20:n≤1048576)(hg:g2<w.heap.size)(hA:Ints.At w g2 what):
  Calls Tryz.prog 130 #[.agg #[.slice (some ⟨g1,0,none⟩) n1 c1,.slice (some ⟨g2,0,none⟩) n c2,.int .i64 all],.int .i64 t] w fun e w'=>∃ps ok g' c,STells t what ps ok∧e= .returned (.slice (some ⟨g',0,none⟩) ps.length c)∧Ints.Own w' w.heap.size g' ps.length c ps∧Below w.heap.size w w':=by
 have HA:=zh (hA.below (one_more w (.cells #[.slice (some ⟨g1,0,none⟩) n1 c1,.slice (some ⟨g2,0,none⟩) n c2,.int .i64 all] 94)) hg)
 have N1:=zh hl
 clear hA hl
 go_enter Tryz.func130,Tryz.ntmps130
 go_wp2_with fail
 refine(IShares.iShares _ t g2 n c2 what (zu N1) h20 (by simp;omega) (zu HA)).mono ?_
 rintro e w1 ⟨ps,ok,g',c,st,rfl,o,bb⟩
 have ST:=zh st
 have OO:=zh (o.mono (by simp:w.heap.size≤_))
 have BB:=zh (((Below.refl w.heap.size w).alloc (Nat.le_refl _) _).trans (bb.mono (by simp)))
 clear st o bb
 go_wp2
 go_ret
 exact⟨ps,ok,g',c,zu ST,rfl,zu OO,zu BB⟩
def Cel(W:World)(p1 p2 p3 p4:Nat)(pp pc py tt:Int):Prop:=W.cell? ⟨p1,0,none⟩=some (.int .i64 pp)∧W.cell? ⟨p2,0,none⟩=some (.int .i64 pc)∧W.cell? ⟨p3,0,none⟩=some (.int .i64 py)∧W.cell? ⟨p4,0,none⟩=some (.int .i64 tt)
theorem Cel.keep{base:Nat}{W W':World}{p1 p2 p3 p4:Nat}{pp pc py tt:Int}(h:Cel W p1 p2 p3 p4 pp pc py tt)(k:Keeps base W W')(l1:p1<base)(l2:p2<base)(l3:p3<base)(l4:p4<base):Cel W' p1 p2 p3 p4 pp pc py tt:=
 ⟨k _ l1 _ h.1,k _ l2 _ h.2.1,k _ l3 _ h.2.2.1,k _ l4 _ h.2.2.2⟩
end PayI
namespace SplitI
open BMem Bks ILists BHelp Ans ICopied ICmdB IHave SBk HeldP SHeld Pay HeldC LegsI Split SplitP ITakeBk ScaleI
open Parts (STells)
open MulC (Tells)
open SIssue (posted_small ne_true ne_false eq_true eq_false)
open IBalsFit (one_more all_one St)
open ITrade (at_new)
open Lots (Says says_of NoOk)
open Bals (T3)
open Triples (Own3 At3)
open SSplitB (ToldS posted_ls)
open FxI (DoneP Keeps)
open PayI (iSh)
theorem iRatio(x:Int)(b:Bool)(w:World)(hb:Says b (1≤x∧x≤1000000)):Calls Tryz.prog 73 #[.int .i64 x] w fun e w'=>e= .returned (.bool b)∧w'=w:=by
 by_cases h1:1≤x
 ·by_cases h2:x≤1000000
  ·obtain rfl:b=true:=hb.of ⟨h1,h2⟩
   clear hb
   go_enter Tryz.func73,Tryz.ntmps73
   go_wp2
   go_ret
   exact⟨rfl,rfl⟩
  ·obtain rfl:b=false:=hb.not (fun h=>h2 h.2)
   clear hb
   go_enter Tryz.func73,Tryz.ntmps73
   go_wp2
   go_ret
   exact⟨rfl,rfl⟩
 ·obtain rfl:b=false:=hb.not (fun h=>h1 h.1)
  clear hb
  go_enter Tryz.func73,Tryz.ntmps73
  go_wp2
  go_ret
  exact⟨rfl,rfl⟩
def SplR(b:Bk)(sp sn sd sy:Int)(b':Bk)(t c:Int):Prop:=
 ∃who what hv ok,IsHeld b sp who what hv ok∧((ok=false∧c=8)∨(ok=true∧who=[]∧c=5)∨(ok=true∧who≠[]∧∃all r fine,Tells hv sn sd all r fine∧((fine=false∧c=8)∨
  (fine=true∧∃ps,STells all what ps true∧∃b1 c1,IsPosted b (legsS sy sp hv all who what ps) b1 c1∧((c1≠0∧c=c1)∨(c1=0∧∃ls,ScAll sp (who.zip ps) b1.ls ls c∧b'={b1 with ls:=ls}∧t=all))))))
theorem SplR.split{b b':Bk}{sp sn sd sy t c:Int}(h:SplR b sp sn sd sy b' t c)(h1:¬SplNone b sp sy)(h2:¬SplKind b sp sy):DoneP (IsSplit b sp sn sd sy) b b' t c:=by
 obtain⟨who,what,hv,ok,hh,⟨e,rfl⟩|⟨e,e2,rfl⟩|⟨e,e2,all,r,fine,ht,⟨e3,rfl⟩|⟨e3,ps,hs,b1,c1,hp,⟨e4,rfl⟩|⟨e4,ls,hc,rfl,rfl⟩⟩⟩⟩:=h
 ·exact .inr ⟨by omega,.inr (.inr ⟨h1,h2,who,what,hv,ok,hh,.inl ⟨e,rfl,rfl,rfl⟩⟩)⟩
 ·exact .inr ⟨by omega,.inr (.inr ⟨h1,h2,who,what,hv,ok,hh,.inr (.inl ⟨e,e2,rfl,rfl,rfl⟩)⟩)⟩
 ·exact .inr ⟨by omega,.inr (.inr ⟨h1,h2,who,what,hv,ok,hh,.inr (.inr ⟨e,e2,all,r,fine,ht,.inl ⟨e3,rfl,rfl,rfl⟩⟩)⟩)⟩
 ·exact .inr ⟨e4,.inr (.inr ⟨h1,h2,who,what,hv,ok,hh,.inr (.inr ⟨e,e2,all,r,fine,ht,.inr ⟨e3,ps,hs,b1,c,hp,.inl ⟨e4,rfl,rfl,rfl⟩⟩⟩)⟩)⟩
 ·by_cases z:c=0
  ·subst z
   exact .inl ⟨rfl,.inr (.inr ⟨h1,h2,who,what,hv,ok,hh,.inr (.inr ⟨e,e2,t,r,fine,ht,.inr ⟨e3,ps,hs,b1,c1,hp,.inr ⟨e4,ls,0,hc,.inr ⟨rfl,rfl,rfl,rfl⟩⟩⟩⟩)⟩)⟩
  ·exact .inr ⟨z,.inr (.inr ⟨h1,h2,who,what,hv,ok,hh,.inr (.inr ⟨e,e2,t,r,fine,ht,.inr ⟨e3,ps,hs,b1,c1,hp,.inr ⟨e4,ls,c,hc,.inl ⟨z,rfl,rfl,rfl⟩⟩⟩⟩)⟩)⟩
theorem legs_same{sy sp hv all:Int}{who what ps:List Int}(h1:ps.length=what.length)(hp:tot ps=all)(hw:tot what=hv):legsW sp who (moreL ps what)++[(sy,sp,-(tot (moreL ps what)))]=legsS sy sp hv all who what ps:=by
 unfold legsS
 rw[moreL_tot _ _ h1,hp,hw,Int.neg_sub]
theorem iSplit(u:World)(z:Bx)(base g:Nat)(sp sn sd sy:Int)(told:ToldS z.b sp sn sd sy)(kp:kindOf z.b.ic sp=2)(V:Var u base g z)(O:Ow u (base+4) z)(hg:g<base+4):
  Calls Tryz.prog 79 #[.pointer (some ⟨g,0,none⟩),.int .i64 sp,.int .i64 sn,.int .i64 sd,.int .i64 sy] u fun e u'=>∃(b':Bk) (t c:Int),SplR z.b sp sn sd sy b' t c∧e= .returned (.tuple #[.int .i64 t,.int .i64 c])∧((c=0∧∃(y:Bx) (v:Value),y.b=b'∧VarL u' base g y v∧OwL u' (base+4) y v)∨(c≠0∧AnyBox u' base g))∧u.grownBy u' (some g):=by
 obtain⟨ok0,n1,⟨m1,m2⟩,⟨e1,e2⟩,n4⟩:=told
 have OK:=zh ok0
 have N1:=zh n1
 have N4:=zh n4
 have KP:=zh kp
 have LI:=zh ok0.1
 have SM:=zh (ok_small ok0)
 have gb:base≤g:=(Box.lt V).1
 have gl0:g<u.heap.size:=(Box.lt V).2
 have D0:=zh (DW.start V O (ok_small ok0))
 have d0:=Box.c0 V
 have d1:=Box.c1 V
 have d2:=Box.c2 V
 have d3:=Box.c3 V
 have d4:=Box.c4 V
 have d5:=Box.c5 V
 clear ok0 n1 n4 kp V O
 go_enter Tryz.func79,Tryz.ntmps79
 go_wp2_with fail
 refine(iSome u z sp (zu D0).r (zu OK)).mono ?_
 rintro e u1 ⟨who,what,hv,okb,g1,k1,g2,k2,c,hI,hl,rfl,hs,o1,o2,ne,bb⟩
 have D1:=zh ((zu D0).step (Below.trans bb ((one_more u1 (.cells #[.slice (some ⟨g1,0,none⟩) who.length k1,.slice (some ⟨g2,0,none⟩) what.length k2,.int .i64 hv] 94)).mono bb.size)))
 have HI:=zh hI
 have HS:=zh hs
 have HL:=zh hl
 have O1:=zh (Ints.Own.below o1 (one_more u1 (.cells #[.slice (some ⟨g1,0,none⟩) who.length k1,.slice (some ⟨g2,0,none⟩) what.length k2,.int .i64 hv] 94)) o1.lt.2)
 have O2:=zh (Ints.Own.below o2 (one_more u1 (.cells #[.slice (some ⟨g1,0,none⟩) who.length k1,.slice (some ⟨g2,0,none⟩) what.length k2,.int .i64 hv] 94)) o2.lt.2)
 have R1:=zh (B3.new u1 (.slice (some ⟨g1,0,none⟩) who.length k1) (.slice (some ⟨g2,0,none⟩) what.length k2) (.int .i64 hv))
 have z1:=bb.size
 have zg0:g<u1.heap.size:=Nat.lt_of_lt_of_le gl0 bb.size
 clear hI hl hs o1 o2 bb d0 d1 d2 d3 d4 d5 D0
 by_cases zc:c=0
 rotate_left
 ·have zb:(c !=0)=true:=ne_true zc
  have PR:=zh (show SplR z.b sp sn sd sy z.b 0 c from by
   rcases zu HS with⟨e,e2⟩|⟨e,e2,e3⟩|⟨_,_,e3⟩
   ·exact⟨who,what,hv,okb,zu HI,.inl ⟨e,e2⟩⟩
   ·exact⟨who,what,hv,okb,zu HI,.inr (.inl ⟨e,e2,e3⟩)⟩
   ·exact absurd e3 zc)
  have ZN:=zh zc
  clear zc
  go_wp2
  go_ret2
  exact⟨z.b,0,c,zu PR,rfl,.inr ⟨zu ZN,Var.any (zu D1).v⟩,(zu D1).grown⟩
 obtain⟨rfl,wne⟩:okb=true∧who≠[]:=by
  rcases zu HS with⟨_,e⟩|⟨_,_,e⟩|⟨e,e2,_⟩
  ·omega
  ·omega
  ·exact⟨e,e2⟩
 have zb:(c !=0)=false:=ne_false zc
 have HG:=zh (held_good (zu HI) wne)
 have WN:=zh wne
 have w20:who.length≤20:=(zu HG).2.2.2.1
 have q20:what.length≤20:=by have:=(zu HG).2.2.1;omega
 obtain⟨aq,ar,fine,tl⟩:=Corp.tells_is hv sn sd
 have WB:=zh (show ∀q∈what,0≤q∧q≤1000000000000000 from fun q hq=>by
  obtain⟨j,hj,rfl⟩:=List.mem_iff_getElem.1 hq
  have:=(zu HG).1.2.1 j hj
  unfold Weigh.Wt at this
  simpa[List.getD,hj] using this)
 have HVT:=zh (zu HG).2.1
 have hvb:0≤hv∧hv≤1000000000000000:=by
  have a:=(zu HG).1.2.2
  rw[S_tot,←zu HVT] at a
  omega
 have qb:=Corp.tells_bd tl hvb.1 (by omega) (by omega)
 have TL:=zh tl
 clear wne zc HS tl
 go_wp2_with fail
 generalize (u1.alloc (.cells #[.slice (some ⟨g1,0,none⟩) who.length k1,.slice (some ⟨g2,0,none⟩) what.length k2,.int .i64 hv] 94))=v0 at *
 have zv:=(zu R1).lt
 refine(MulC.iMD hv sn sd aq ar fine _ hvb.1 hvb.2 (by omega) (by omega) e1 (by omega) TL).mono ?_
 rintro e v1 ⟨rfl,gr⟩
 have bM:=zh (show Below v0.heap.size v0 v1 from gr.below)
 have D2:=zh ((zu D1).step (zu bM))
 have R2:=zh ((zu R1).below (zu bM) zv)
 have O1b:=zh ((zu O1).below (zu bM) (zu O1).lt.2)
 have O2b:=zh ((zu O2).below (zu bM) (zu O2).lt.2)
 clear gr
 cases fine
 ·have PR:=zh (show SplR z.b sp sn sd sy z.b 0 8 from⟨who,what,hv,true,zu HI,.inr (.inr ⟨rfl,zu WN,aq,ar,false,zu TL,.inl ⟨rfl,rfl⟩⟩)⟩)
  go_wp2
  go_ret2
  exact⟨z.b,0,8,zu PR,rfl,.inr ⟨by omega,Var.any (zu D2).v⟩,(zu D2).grown⟩
 have r0:=(zu R2).c0
 have r1:=(zu R2).c1
 have r2:=(zu R2).c2
 have zv2:=(zu R2).lt
 go_wp2_with fail
 refine(iSh v1 aq g1 who.length k1 g2 what.length k2 hv what rfl (by omega) (zu O2b).lt.2 (zu O2b).at).mono ?_
 rintro e v2 ⟨ps,okp,gs,cs,st,rfl,os,bb⟩
 have ST:=zh st
 obtain rfl:=sh_ok (zu HG).1 ⟨qb.1,qb.2⟩ st
 have S2:=zh (shares_tot (zu ST) rfl)
 have PL:=zh (show ps.length=what.length from(zu S2).2.1)
 have WL:=zh (show who.length=what.length from(zu HG).2.2.1)
 have D3:=zh ((zu D2).step bb)
 have R3:=zh ((zu R2).below bb zv2)
 have O1c:=zh ((zu O1b).below bb (zu O1b).lt.2)
 have O2c:=zh ((zu O2b).below bb (zu O2b).lt.2)
 have OS:=zh os
 have osl:=os.lt
 have z2:=bb.size
 clear st os bb r0 r1 r2 O1 O2 O1b O2b D1 D2 R1 R2 bM
 obtain⟨n,hn⟩:∃n,Hid (what.length=n):=⟨_,zh rfl⟩
 have PLn:=zh (show ps.length=n from(zu PL).trans (zu hn))
 have WLn:=zh (show who.length=n from(zu WL).trans (zu hn))
 rw[zu PLn]
 rw[zu hn,zu WLn] at R3
 rw[zu hn] at q20
 obtain⟨i0,hi,hz0,hz1,hz2⟩:=info_parts HeldR.info3
 go_wp2_with (at_make;refine wpList_make_full _ rfl (.tmp 48) (.tmp 48) 43 rfl v2.heap.size 3 i0 (.int .i64 0) 1 Tryz.underlying43 hi hz0 hz1 .i64 .i64 _ _ n rfl rfl rfl rfl (by rw[hz2];omega) (by unfold maxLen;omega) (Nat.le_refl _) ?_)
 intro v3 om gr3
 have bK:=zh (show Below v2.heap.size v2 v3 from⟨gr3.os,gr3.tape,gr3.output,gr3.size,fun j hj=>gr3.block j hj (by simp)⟩)
 have om':Ints.Own v3 v2.heap.size v2.heap.size n n (Ints.part (moreL ps what) n 0):=by
  have o:=om
  rw[IOrder.made_zeros1,←Ints.part_zero (moreL ps what)] at o
  exact o
 have OM:=zh om'
 have ML:=zh (show(moreL ps what).length=n from by rw[moreL_len (zu PL)];exact zu PLn)
 clear om om' gr3
 go_wp2
 go_loopw [52] (fun j wr=>∃(k:Nat),j= .int .i64 k∧k≤n∧Hid (Ints.Own wr v2.heap.size v2.heap.size n n (Ints.part (moreL ps what) n k))∧Hid (Below v2.heap.size v2 wr)) (fun j _=>n-(intOf j).toNat)
 case atStart=>exact⟨0,rfl,by omega,OM,bK⟩
 case round=>
  clear OM bK
  obtain⟨k,rfl,hk,OM,HB⟩:=hrel
  have R4:=zh ((zu R3).below (zu HB) (zu R3).lt)
  by_cases t:k<n
  ·have y2e:=((zu OS).at.below (zu HB) osl.2) k (by rw[zu PLn];exact t)
   have y3e:=((zu O2c).at.below (zu HB) (zu O2c).lt.2) k (by rw[zu hn];exact t)
   have MG:=zh (moreL_getD (ps:=ps) (what:=what) (k:=k) (by rw[zu PLn];exact t) (zu PL))
   have y2b:=(zu S2).2.2 (ps.getD k 0) (by simp[List.getD,show k<ps.length by rw[zu PLn];exact t])
   have y3b:=(zu WB) (what.getD k 0) (by simp[List.getD,show k<what.length by rw[zu hn];exact t])
   obtain⟨y2,hy2⟩:∃q,Hid (ps.getD k 0=q):=⟨_,rfl⟩
   obtain⟨y3,hy3⟩:∃q,Hid (what.getD k 0=q):=⟨_,rfl⟩
   rw[zu hy2] at y2e MG y2b
   rw[zu hy3] at y3e MG y3b
   clear hy2 hy3
   have WS:IntKind.i64.wrap (y2-y3)=y2-y3:=by rw[IntKind.wrap_i64];omega
   have r1:=(zu R4).c1
   have ml:=(zu OM).len
   have mc:=(zu OM).at k (by rw[ml];exact t)
   have mf:=(zu OM).free k
   have PS:=zh (Ints.part_step (moreL ps what) n k (zu ML) t)
   rw[zu MG] at PS
   obtain⟨os1,os2⟩:=Ints.Own.set (zu OM) k (y2-y3)
   rw[zu PS] at os1
   have OM2:=zh os1
   have B2:=zh ((zu HB).grown os2 (zu HB).size (fun i e=>by injection e with e;omega))
   have i2:(k:Int)<(n:Int):=by omega
   clear ml os1 os2 y2b y3b PS MG
   go_wp2
   go_roundw
   case rel=>exact⟨k+1,by go_num,by omega,OM2,B2⟩
   case measure=>simp[intOf];omega
  ·obtain rfl:k=n:=by omega
   have OM2:=zh (show Ints.Own wr v2.heap.size v2.heap.size k k (moreL ps what) from by
    have:=zu OM
    rwa [Ints.part_all _ k (zu ML)] at this)
   have D4:=zh ((zu D3).step (zu HB))
   have O1d:=zh ((zu O1c).below (zu HB) (zu O1c).lt.2)
   have OSd:=zh ((zu OS).below (zu HB) osl.2)
   have r0:=(zu R4).c0
   have r1:=(zu R4).c1
   have r2:=(zu R4).c2
   have MT:=zh (moreL_tot ps what (zu PL))
   have MB:=zh (show ∀p∈moreL ps what,-1000000000000000≤p∧p≤1000000000000000 from fun p hp=>by
    obtain⟨a,ha,b,hb,rfl⟩:=moreL_mem hp
    have x:=(zu S2).2.2 a ha
    have y:=(zu WB) b hb
    omega)
   have LS:=zh (legs_same (sy:=sy) (sp:=sp) (who:=who) (zu PL) (zu S2).1 (zu HVT).symm)
   clear OM t
   have w20k:k≤20:=by omega
   go_wp2_with fail
   refine(iLegsTo wr g1 k1 g2 k k2 v2.heap.size k k hv sy sp who (moreL ps what) w20k (zu WLn) (zu ML) (zu O1d).lt.2 (zu OM2).lt.2 (zu O1d).at (zu OM2).at (zu MB)).mono ?_
   rintro e v5 ⟨gl,cl,rfl,ol,bb⟩
   have R5:=zh ((zu R4).below bb (zu R4).lt)
   have D5:=zh ((zu D4).step bb)
   have O1e:=zh ((zu O1d).below bb (zu O1d).lt.2)
   have OSe:=zh ((zu OSd).below bb (zu OSd).lt.2)
   have OL:=zh ol
   clear ol bb r0 r1 r2
   go_wp2_with fail
   have HLM:=zh (show(moreL ps what).length=who.length from(zu ML).trans (zu WLn).symm)
   have LLL:=zh (show(legsW sp who (moreL ps what)++[(sy,sp,-(tot (moreL ps what)))]).length=k+1 from by rw[legsL_len (zu HLM),zu WLn])
   have q:=IPostB.iPost v5 z base g gl cl (legsW sp who (moreL ps what)++[(sy,sp,-(tot (moreL ps what)))]) (zu LI) (zu SM) (zu D5).v (zu D5).o hg (by rw[zu LLL];omega) (zu OL).lt.2 (zu OL).at (legsL_formed (zu N4) (zu N1) (zu HLM) w20 (zu HG).2.2.2.2.1 (zu MB) (by rw[zu MT,(zu S2).1,←zu HVT];omega)) (legsL_even (zu HLM))
   rw[zu LLL] at q
   refine q.mono ?_
   clear q
   rintro e v6 ⟨y,c1,hpo,rfl,vy,oy,gr⟩
   have R6:=zh ((zu R5).kept gr (fun e=>by injection e with e;omega))
   have G6:=zh (Pairs.grown_trans (zu D5).grown gr)
   have g1b:=(zu O1e).lt
   have gsb:=(zu OSe).lt
   have g1n:g1≠g:=by omega
   have gsn:gs≠g:=by omega
   have O1f:=zh ((zu O1e).kept gr (fun e=>by injection e with e;exact g1n e))
   have OSf:=zh ((zu OSe).kept gr (fun e=>by injection e with e;exact gsn e))
   have HP:=zh (show IsPosted z.b (legsS sy sp hv aq who what ps) y.b c1 from by rw[←zu LS];exact hpo)
   have VY:=zh vy
   have OY:=zh oy
   clear hpo vy oy gr
   by_cases zz:c1=0
   rotate_left
   ·have zzb:(c1 !=0)=true:=ne_true zz
    have ZN:=zh zz
    clear zz
    go_wp2
    go_ret2
    exact⟨y.b,0,c1,⟨who,what,hv,true,zu HI,.inr (.inr ⟨rfl,zu WN,aq,ar,true,zu TL,.inr ⟨rfl,ps,zu ST,y.b,c1,zu HP,.inl ⟨zu ZN,rfl⟩⟩⟩)⟩,rfl,.inr ⟨zu ZN,Var.any (zu VY)⟩,zu G6⟩
   subst zz
   have YL:=zh (posted_ls (zu HP))
   have YS:=zh (show y.b.ls.length≤1048576 from(posted_small (zu HP) (zu SM)).2.2.2.1)
   have HAS:=zh (show ∀j,j<k→Has y.b.ls (who.getD j 0) sp from fun j hj=>by
    rw[zu YL]
    have m:who.getD j 0∈who:=by simp[List.getD,show j<who.length by rw[zu WLn];exact hj]
    have a:=(zu HG).2.2.2.2.2.1 _ m
    exact has_start (zu OK) a.1 (zu KP) a.2)
   have WNE:=zh (show ∀j i,j<k→i<j→who.getD i 0≠who.getD j 0 from fun j i hj hi=>who_ne (zu HI) (by rw[zu WLn];exact hj) hi)
   have r0:=(zu R6).c0
   go_wp2_with fail
   refine(iScaleAll v6 y base g g1 k1 gs cs k sp who ps w20k (zu WLn) (zu PLn) (zu VY) (zu OY) hg (zu O1f).lt.2 (zu OSf).lt.2 g1n gsn (zu O1f).at (zu OSf).at (zu YS) (zu HAS) (zu WNE)).mono ?_
   rintro e v7 ⟨ls,c2,hc,rfl,hz,gr2⟩
   have HC:=zh hc
   have HZ:=zh hz
   have G7:=zh (Pairs.grown_trans (zu G6) gr2)
   clear hc hz gr2 r0
   go_wp2
   go_ret2
   refine⟨{y.b with ls:=ls},aq,c2,⟨who,what,hv,true,zu HI,.inr (.inr ⟨rfl,zu WN,aq,ar,true,zu TL,.inr ⟨rfl,ps,zu ST,y.b,0,zu HP,.inr ⟨rfl,ls,zu HC,rfl,rfl⟩⟩⟩)⟩,rfl,?_,zu G7⟩
   rcases zu HZ with⟨h0,v,h1,h2⟩|h
   ·exact .inl ⟨h0,lotsOf y ls,v,rfl,h1,h2⟩
   ·exact .inr h
end SplitI
namespace SplitC
open BMem Bks ILists BHelp Ans ICopied ICmdB IHave SBk SHeld Pay Split
open IBalsFit (one_more all_one)
open ITrade (at_new)
open Lots (Says says_of NoOk)
open SSplitB (ToldS)
open FxI (DoneP Keeps)
def Cel(W:World)(p1 p2 p3 p4:Nat)(sp sy sn sd:Int):Prop:=W.cell? ⟨p1,0,none⟩=some (.int .i64 sp)∧W.cell? ⟨p2,0,none⟩=some (.int .i64 sy)∧W.cell? ⟨p3,0,none⟩=some (.int .i64 sn)∧W.cell? ⟨p4,0,none⟩=some (.int .i64 sd)
theorem Cel.keep{base:Nat}{W W':World}{p1 p2 p3 p4:Nat}{sp sy sn sd:Int}(h:Cel W p1 p2 p3 p4 sp sy sn sd)(k:Keeps base W W')(l1:p1<base)(l2:p2<base)(l3:p3<base)(l4:p4<base):Cel W' p1 p2 p3 p4 sp sy sn sd:=
 ⟨k _ l1 _ h.1,k _ l2 _ h.2.1,k _ l3 _ h.2.2.1,k _ l4 _ h.2.2.2⟩
theorem hold{u W:World}{z:Bx}{base g:Nat}{p1 p2 p3 p4:Nat}{sp sy sn sd:Int}(d:DW u W z base g)(c:Cel W p1 p2 p3 p4 sp sy sn sd):(W.cell? ⟨g,0,none⟩=some (.slice (some ⟨z.ga,0,none⟩) z.b.ac.length z.ca)∧W.cell? ⟨g,1,none⟩=some (.slice (some ⟨z.gi,0,none⟩) z.b.ic.length z.ci)∧W.cell? ⟨g,2,none⟩=some (.slice (some ⟨z.gb,0,none⟩) z.b.bs.length z.cb)∧W.cell? ⟨g,3,none⟩=some (.slice (some ⟨z.gl,0,none⟩) z.b.ls.length z.cl)∧W.cell? ⟨g,4,none⟩=some (.slice (some ⟨z.gt,0,none⟩) z.b.ts.length z.ct)∧W.cell? ⟨g,5,none⟩=some (.int .i64 z.b.lot))∧W.cell? ⟨p1,0,none⟩=some (.int .i64 sp)∧W.cell? ⟨p2,0,none⟩=some (.int .i64 sy)∧W.cell? ⟨p3,0,none⟩=some (.int .i64 sn)∧W.cell? ⟨p4,0,none⟩=some (.int .i64 sd):=⟨⟨d.v.c0,d.v.c1,d.v.c2,d.v.c3,d.v.c4,d.v.c5⟩,c⟩
abbrev oR0:Oper:={dst:=some 8,op:=Go.Op.move (Go.Operand.tmp 0),type:=75,pos:= "l09_corp.go:36",after:= #[],guard:=none}
abbrev oR1:Oper:={dst:=some 9,op:=Go.Op.nilCheck (Go.Operand.tmp 8),type:=0,pos:= "l09_corp.go:36",after:= #[{on:=0,ground:=Go.Ground.data}],guard:=none}
abbrev oR2:Oper:={dst:=some 10,op:=Go.Op.load 36 (Go.Operand.tmp 9),type:=36,pos:= "l09_corp.go:36",after:= #[{on:=1,ground:=Go.Ground.data}],guard:=none}
abbrev oR3:Oper:={dst:=some 11,op:=Go.Op.load 3 (Go.Operand.tmp 1),type:=3,pos:= "l09_corp.go:36",after:= #[],guard:=none}
abbrev oR4:Oper:={dst:=some 12,op:=Go.Op.buildSlice 43 1 #[(0,Go.Operand.tmp 11)],type:=43,pos:= "l09_corp.go:36",after:= #[{on:=3,ground:=Go.Ground.data}],guard:=none}
abbrev oR5:Oper:={dst:=some 13,op:=Go.Op.call {callee:=Go.Callee.value (Go.Operand.func 75),args:= #[Go.Operand.tmp 10,Go.Operand.tmp 12],argTypes:= #[75,43]},type:=4,pos:= "l09_corp.go:36",after:= #[{on:=2,ground:=Go.Ground.data},{on:=4,ground:=Go.Ground.data}],guard:=none}
abbrev oR6:Oper:={dst:=some 14,op:=Go.Op.unOp Go.UnOp.not 4 (Go.Operand.tmp 13),type:=4,pos:= "l09_corp.go:36",after:= #[{on:=5,ground:=Go.Ground.data}],guard:=none}
abbrev oR7:Oper:={dst:=some 15,op:=Go.Op.move (Go.Operand.tmp 14),type:=4,pos:= "l09_corp.go:36",after:= #[{on:=6,ground:=Go.Ground.data},{on:=5,ground:=Go.Ground.chain}],guard:=none}
abbrev oR8:Oper:={dst:=some 16,op:=Go.Op.move (Go.Operand.tmp 0),type:=75,pos:= "l09_corp.go:36",after:= #[{on:=7,ground:=Go.Ground.guard}],guard:=some (7,false)}
abbrev oR9:Oper:={dst:=some 17,op:=Go.Op.nilCheck (Go.Operand.tmp 16),type:=0,pos:= "l09_corp.go:36",after:= #[{on:=8,ground:=Go.Ground.data},{on:=7,ground:=Go.Ground.guard}],guard:=some (7,false)}
abbrev oR10:Oper:={dst:=some 18,op:=Go.Op.load 36 (Go.Operand.tmp 17),type:=36,pos:= "l09_corp.go:36",after:= #[{on:=9,ground:=Go.Ground.data},{on:=7,ground:=Go.Ground.guard}],guard:=some (7,false)}
abbrev oR11:Oper:={dst:=some 19,op:=Go.Op.load 3 (Go.Operand.tmp 2),type:=3,pos:= "l09_corp.go:36",after:= #[{on:=7,ground:=Go.Ground.guard}],guard:=some (7,false)}
abbrev oR12:Oper:={dst:=some 20,op:=Go.Op.buildSlice 43 1 #[(0,Go.Operand.tmp 19)],type:=43,pos:= "l09_corp.go:36",after:= #[{on:=11,ground:=Go.Ground.data},{on:=7,ground:=Go.Ground.guard}],guard:=some (7,false)}
abbrev oR13:Oper:={dst:=some 21,op:=Go.Op.call {callee:=Go.Callee.value (Go.Operand.func 76),args:= #[Go.Operand.tmp 18,Go.Operand.tmp 20],argTypes:= #[75,43]},type:=4,pos:= "l09_corp.go:36",after:= #[{on:=10,ground:=Go.Ground.data},{on:=12,ground:=Go.Ground.data},{on:=7,ground:=Go.Ground.chain},{on:=7,ground:=Go.Ground.guard}],guard:=some (7,false)}
abbrev oR14:Oper:={dst:=some 22,op:=Go.Op.unOp Go.UnOp.not 4 (Go.Operand.tmp 21),type:=4,pos:= "l09_corp.go:36",after:= #[{on:=13,ground:=Go.Ground.data},{on:=7,ground:=Go.Ground.guard}],guard:=some (7,false)}
abbrev oR15:Oper:={dst:=some 23,op:=Go.Op.pick (Go.Operand.tmp 15) (Go.Operand.const (Go.Value.bool true)) (Go.Operand.tmp 22),type:=4,pos:= "l09_corp.go:36",after:= #[{on:=7,ground:=Go.Ground.data},{on:=14,ground:=Go.Ground.data}],guard:=none}
abbrev oT0:Oper:={dst:=some 24,op:=Go.Op.move (Go.Operand.tmp 0),type:=75,pos:= "l09_corp.go:39",after:= #[],guard:=none}
abbrev oT1:Oper:={dst:=some 25,op:=Go.Op.nilCheck (Go.Operand.tmp 24),type:=0,pos:= "l09_corp.go:39",after:= #[{on:=0,ground:=Go.Ground.data}],guard:=none}
abbrev oT2:Oper:={dst:=some 26,op:=Go.Op.load 36 (Go.Operand.tmp 25),type:=36,pos:= "l09_corp.go:39",after:= #[{on:=1,ground:=Go.Ground.data}],guard:=none}
abbrev oT3:Oper:={dst:=some 27,op:=Go.Op.load 3 (Go.Operand.tmp 1),type:=3,pos:= "l09_corp.go:39",after:= #[],guard:=none}
abbrev oT4:Oper:={dst:=some 28,op:=Go.Op.call {callee:=Go.Callee.value (Go.Operand.func 77),args:= #[Go.Operand.tmp 26,Go.Operand.tmp 27],argTypes:= #[75,3]},type:=4,pos:= "l09_corp.go:39",after:= #[{on:=2,ground:=Go.Ground.data},{on:=3,ground:=Go.Ground.data}],guard:=none}
abbrev oT5:Oper:={dst:=some 29,op:=Go.Op.unOp Go.UnOp.not 4 (Go.Operand.tmp 28),type:=4,pos:= "l09_corp.go:39",after:= #[{on:=4,ground:=Go.Ground.data}],guard:=none}
abbrev oT6:Oper:={dst:=some 30,op:=Go.Op.move (Go.Operand.tmp 29),type:=4,pos:= "l09_corp.go:39",after:= #[{on:=5,ground:=Go.Ground.data},{on:=4,ground:=Go.Ground.chain}],guard:=none}
abbrev oT7:Oper:={dst:=some 31,op:=Go.Op.move (Go.Operand.tmp 0),type:=75,pos:= "l09_corp.go:39",after:= #[{on:=6,ground:=Go.Ground.guard}],guard:=some (6,false)}
abbrev oT8:Oper:={dst:=some 32,op:=Go.Op.nilCheck (Go.Operand.tmp 31),type:=0,pos:= "l09_corp.go:39",after:= #[{on:=7,ground:=Go.Ground.data},{on:=6,ground:=Go.Ground.guard}],guard:=some (6,false)}
abbrev oT9:Oper:={dst:=some 33,op:=Go.Op.load 36 (Go.Operand.tmp 32),type:=36,pos:= "l09_corp.go:39",after:= #[{on:=8,ground:=Go.Ground.data},{on:=6,ground:=Go.Ground.guard}],guard:=some (6,false)}
abbrev oT10:Oper:={dst:=some 34,op:=Go.Op.load 3 (Go.Operand.tmp 2),type:=3,pos:= "l09_corp.go:39",after:= #[{on:=6,ground:=Go.Ground.guard}],guard:=some (6,false)}
abbrev oT11:Oper:={dst:=some 35,op:=Go.Op.call {callee:=Go.Callee.value (Go.Operand.func 78),args:= #[Go.Operand.tmp 33,Go.Operand.tmp 34],argTypes:= #[75,3]},type:=4,pos:= "l09_corp.go:39",after:= #[{on:=9,ground:=Go.Ground.data},{on:=10,ground:=Go.Ground.data},{on:=6,ground:=Go.Ground.chain},{on:=6,ground:=Go.Ground.guard}],guard:=some (6,false)}
abbrev oT12:Oper:={dst:=some 36,op:=Go.Op.unOp Go.UnOp.not 4 (Go.Operand.tmp 35),type:=4,pos:= "l09_corp.go:39",after:= #[{on:=11,ground:=Go.Ground.data},{on:=6,ground:=Go.Ground.guard}],guard:=some (6,false)}
abbrev oT13:Oper:={dst:=some 37,op:=Go.Op.pick (Go.Operand.tmp 30) (Go.Operand.const (Go.Value.bool true)) (Go.Operand.tmp 36),type:=4,pos:= "l09_corp.go:39",after:= #[{on:=6,ground:=Go.Ground.data},{on:=12,ground:=Go.Ground.data}],guard:=none}
theorem iClosure(u:World)(z:Bx)(base g:Nat)(p1 p2 p3 p4:Nat)(sp sy sn sd:Int)(hC:Cel u p1 p2 p3 p4 sp sy sn sd)(l1:p1<base)(l2:p2<base)(l3:p3<base)(l4:p4<base)(told:ToldS z.b sp sn sd sy)(V:Var u base g z)(O:Ow u (base+4) z)(hg:g<base+4):
  Calls Tryz.prog 74 #[.pointer (some ⟨g,0,none⟩),.pointer (some ⟨p1,0,none⟩),.pointer (some ⟨p2,0,none⟩),.pointer (some ⟨p3,0,none⟩),.pointer (some ⟨p4,0,none⟩)] u (ICmdV.DoesV (DoneP (IsSplit z.b sp sn sd sy) z.b) base g u):=by
 obtain⟨b0,h0⟩:=says_of (∀y∈[sp],kindOf z.b.ic y≠0)
 obtain⟨b1,h1⟩:=says_of (∀y∈[sy],kindOf z.b.ac y≠0)
 obtain⟨t0,k0⟩:=says_of (kindOf z.b.ic sp=2)
 obtain⟨t1,k1⟩:=says_of (kindOf z.b.ac sy=2)
 have H0:=zh h0
 have H1:=zh h1
 have Q0:=zh k0
 have Q1:=zh k1
 have TT:=zh told
 have LI:=zh told.1.1
 have gb:base≤g:=(Box.lt V).1
 have D0:=zh (DW.start V O (ok_small told.1)).drew
 have C0:=zh (show Cel u.drew p1 p2 p3 p4 sp sy sn sd from hC)
 have gl0:g<u.heap.size:=(Box.lt V).2
 have K4:=hold (zu D0) (zu C0)
 clear h0 h1 k0 k1 told V O hC
 go_enter Tryz.func74,Tryz.ntmps74
 go_wp2_with fail
 cases b0
 ·refine wp_region_held_drew (S:=(fun w'=>(w'.cell? ⟨g,0,none⟩=some (.slice (some ⟨z.ga,0,none⟩) z.b.ac.length z.ca)∧w'.cell? ⟨g,1,none⟩=some (.slice (some ⟨z.gi,0,none⟩) z.b.ic.length z.ci)∧w'.cell? ⟨g,2,none⟩=some (.slice (some ⟨z.gb,0,none⟩) z.b.bs.length z.cb)∧w'.cell? ⟨g,3,none⟩=some (.slice (some ⟨z.gl,0,none⟩) z.b.ls.length z.cl)∧w'.cell? ⟨g,4,none⟩=some (.slice (some ⟨z.gt,0,none⟩) z.b.ts.length z.ct)∧w'.cell? ⟨g,5,none⟩=some (.int .i64 z.b.lot))∧w'.cell? ⟨p1,0,none⟩=some (.int .i64 sp)∧w'.cell? ⟨p2,0,none⟩=some (.int .i64 sy)∧w'.cell? ⟨p3,0,none⟩=some (.int .i64 sn)∧w'.cell? ⟨p4,0,none⟩=some (.int .i64 sd))) (by kernel_rfl) K4 (fun hHeld=>?_)
  refine tk 0 oR0 (.pointer (some ⟨g,0,none⟩)) rfl (by kernel_rfl) (fun _ _ _ h=>h) (by rfl) (fun w hSw=>?_) hHeld ?_
  ·(try dsimp only at hSw)
   unfold oR0
   go_simp
  try simp only[oR0,Act.put,zA,zB,zC]
  refine tk 1 oR1 (.pointer (some ⟨g,0,none⟩)) rfl (by kernel_rfl) (fun _ _ _ h=>h) (by rfl) (fun w hSw=>?_) hHeld ?_
  ·(try dsimp only at hSw)
   unfold oR1
   go_simp
  try simp only[oR1,Act.put,zA,zB,zC]
  refine tk 2 oR2 (.agg #[.slice (some ⟨z.ga,0,none⟩) z.b.ac.length z.ca,.slice (some ⟨z.gi,0,none⟩) z.b.ic.length z.ci,.slice (some ⟨z.gb,0,none⟩) z.b.bs.length z.cb,.slice (some ⟨z.gl,0,none⟩) z.b.ls.length z.cl,.slice (some ⟨z.gt,0,none⟩) z.b.ts.length z.ct,.int .i64 z.b.lot]) rfl (by kernel_rfl) (fun _ _ _ h=>h) (by rfl) (fun w hSw=>?_) hHeld ?_
  ·(try dsimp only at hSw)
   unfold oR2
   go_simp
  try simp only[oR2,Act.put,zA,zB,zC]
  refine tk 3 oR3 (.int .i64 sp) rfl (by kernel_rfl) (fun _ _ _ h=>h) (by rfl) (fun w hSw=>?_) hHeld ?_
  ·(try dsimp only at hSw)
   unfold oR3
   go_simp
  try simp only[oR3,Act.put,zA,zB,zC]
  refine wpAnyH_ready (rs:=[4]) (by kernel_rfl) (by simp) ?_
  refine AllReadyH.cons (o:=oR4) rfl (fun K hK=>?_) AllReadyH.nil
  unfold oR4
  go_simp
  have D1:=zh ((zu D0).step (one_more _ (.cells #[.int .i64 sp] 3)))
  have C1:=zh ((zu C0).keep (Keeps.below (one_more _ (.cells #[.int .i64 sp] 3)) (by have:=(Box.lt (zu D0).v).2;omega)) l1 l2 l3 l4)
  have K5:=hold (zu D1) (zu C1)
  refine hK.out _ _ K5 (fun hHeld=>?_)
  clear hK K
  try simp only[oR4,Act.put,zA,zB,zC]
  refine wpAnyH_ready (rs:=[5]) (by kernel_rfl) (by simp) ?_
  refine AllReadyH.cons (o:=oR5) rfl (fun K hK=>?_) AllReadyH.nil
  unfold oR5
  go_simp
  go_wp2_with fail
  refine(iHaveInstrs _ z u.heap.size 1 1 [sp] false (zu D1).r (zu LI).2.1 rfl (by omega) (by first|simp|(simp;omega)) (at_new u.drew [sp] _ (by first|rfl|simp) rfl) (zu H0)).mono ?_
  rintro e u1 ⟨rfl,bb⟩
  have D2:=zh ((zu D1).step bb)
  have C2:=zh ((zu C1).keep (Keeps.below bb (by have:=(Box.lt (zu D1).v).2;omega)) l1 l2 l3 l4)
  have K6:=hold (zu D2) (zu C2)
  have zu1:=bb.size
  clear bb
  go_wp2_with fail
  refine hK.out _ _ K6 (fun hHeld=>?_)
  clear hK K
  try simp only[oR5,Act.put,zA,zB,zC]
  refine tk 6 oR6 (.bool true) rfl (by kernel_rfl) (fun _ _ _ h=>h) (by rfl) (fun w hSw=>?_) hHeld ?_
  ·(try dsimp only at hSw)
   unfold oR6
   go_simp
  try simp only[oR6,Act.put,zA,zB,zC]
  refine tk 7 oR7 (.bool true) rfl (by kernel_rfl) (fun _ _ _ h=>h) (by rfl) (fun w hSw=>?_) hHeld ?_
  ·(try dsimp only at hSw)
   unfold oR7
   go_simp
  try simp only[oR7,Act.put,zA,zB,zC]
  refine sk 8 oR8 rfl (by kernel_rfl) (fun _ _ _ h=>h) (by rfl) hHeld ?_
  try simp only[oR8,Act.put,zA,zB,zC]
  refine sk 9 oR9 rfl (by kernel_rfl) (fun _ _ _ h=>h) (by rfl) hHeld ?_
  try simp only[oR9,Act.put,zA,zB,zC]
  refine sk 10 oR10 rfl (by kernel_rfl) (fun _ _ _ h=>h) (by rfl) hHeld ?_
  try simp only[oR10,Act.put,zA,zB,zC]
  refine sk 11 oR11 rfl (by kernel_rfl) (fun _ _ _ h=>h) (by rfl) hHeld ?_
  try simp only[oR11,Act.put,zA,zB,zC]
  refine sk 12 oR12 rfl (by kernel_rfl) (fun _ _ _ h=>h) (by rfl) hHeld ?_
  try simp only[oR12,Act.put,zA,zB,zC]
  refine sk 13 oR13 rfl (by kernel_rfl) (fun _ _ _ h=>h) (by rfl) hHeld ?_
  try simp only[oR13,Act.put,zA,zB,zC]
  refine sk 14 oR14 rfl (by kernel_rfl) (fun _ _ _ h=>h) (by rfl) hHeld ?_
  try simp only[oR14,Act.put,zA,zB,zC]
  refine tk 15 oR15 (.bool true) rfl (by kernel_rfl) (fun _ _ _ h=>h) (by rfl) (fun w hSw=>?_) hHeld ?_
  ·(try dsimp only at hSw)
   unfold oR15
   go_simp
  try simp only[oR15,Act.put,zA,zB,zC]
  refine wpAnyH_done (by kernel_rfl) ?_ _
  have IZ:=zh (show IsSplit z.b sp sn sd sy z.b 0 3 from .inl ⟨by
   have:=(zu H0).no
   simp only[List.mem_cons,List.not_mem_nil,or_false,forall_eq_or_imp,forall_eq] at this
   unfold SplNone
   omega,rfl,rfl,rfl⟩)
  go_wp2
  go_ret2
  exact⟨z.b,0,3,.inr ⟨by omega,zu IZ⟩,rfl,.inr ⟨by omega,Var.any (zu D2).v⟩,(zu D2).grown⟩
 cases b1
 ·refine wp_region_held_drew (S:=(fun w'=>(w'.cell? ⟨g,0,none⟩=some (.slice (some ⟨z.ga,0,none⟩) z.b.ac.length z.ca)∧w'.cell? ⟨g,1,none⟩=some (.slice (some ⟨z.gi,0,none⟩) z.b.ic.length z.ci)∧w'.cell? ⟨g,2,none⟩=some (.slice (some ⟨z.gb,0,none⟩) z.b.bs.length z.cb)∧w'.cell? ⟨g,3,none⟩=some (.slice (some ⟨z.gl,0,none⟩) z.b.ls.length z.cl)∧w'.cell? ⟨g,4,none⟩=some (.slice (some ⟨z.gt,0,none⟩) z.b.ts.length z.ct)∧w'.cell? ⟨g,5,none⟩=some (.int .i64 z.b.lot))∧w'.cell? ⟨p1,0,none⟩=some (.int .i64 sp)∧w'.cell? ⟨p2,0,none⟩=some (.int .i64 sy)∧w'.cell? ⟨p3,0,none⟩=some (.int .i64 sn)∧w'.cell? ⟨p4,0,none⟩=some (.int .i64 sd))) (by kernel_rfl) K4 (fun hHeld=>?_)
  refine tk 0 oR0 (.pointer (some ⟨g,0,none⟩)) rfl (by kernel_rfl) (fun _ _ _ h=>h) (by rfl) (fun w hSw=>?_) hHeld ?_
  ·(try dsimp only at hSw)
   unfold oR0
   go_simp
  try simp only[oR0,Act.put,zA,zB,zC]
  refine tk 1 oR1 (.pointer (some ⟨g,0,none⟩)) rfl (by kernel_rfl) (fun _ _ _ h=>h) (by rfl) (fun w hSw=>?_) hHeld ?_
  ·(try dsimp only at hSw)
   unfold oR1
   go_simp
  try simp only[oR1,Act.put,zA,zB,zC]
  refine tk 2 oR2 (.agg #[.slice (some ⟨z.ga,0,none⟩) z.b.ac.length z.ca,.slice (some ⟨z.gi,0,none⟩) z.b.ic.length z.ci,.slice (some ⟨z.gb,0,none⟩) z.b.bs.length z.cb,.slice (some ⟨z.gl,0,none⟩) z.b.ls.length z.cl,.slice (some ⟨z.gt,0,none⟩) z.b.ts.length z.ct,.int .i64 z.b.lot]) rfl (by kernel_rfl) (fun _ _ _ h=>h) (by rfl) (fun w hSw=>?_) hHeld ?_
  ·(try dsimp only at hSw)
   unfold oR2
   go_simp
  try simp only[oR2,Act.put,zA,zB,zC]
  refine tk 3 oR3 (.int .i64 sp) rfl (by kernel_rfl) (fun _ _ _ h=>h) (by rfl) (fun w hSw=>?_) hHeld ?_
  ·(try dsimp only at hSw)
   unfold oR3
   go_simp
  try simp only[oR3,Act.put,zA,zB,zC]
  refine wpAnyH_ready (rs:=[4]) (by kernel_rfl) (by simp) ?_
  refine AllReadyH.cons (o:=oR4) rfl (fun K hK=>?_) AllReadyH.nil
  unfold oR4
  go_simp
  have D1:=zh ((zu D0).step (one_more _ (.cells #[.int .i64 sp] 3)))
  have C1:=zh ((zu C0).keep (Keeps.below (one_more _ (.cells #[.int .i64 sp] 3)) (by have:=(Box.lt (zu D0).v).2;omega)) l1 l2 l3 l4)
  have K5:=hold (zu D1) (zu C1)
  refine hK.out _ _ K5 (fun hHeld=>?_)
  clear hK K
  try simp only[oR4,Act.put,zA,zB,zC]
  refine wpAnyH_ready (rs:=[5]) (by kernel_rfl) (by simp) ?_
  refine AllReadyH.cons (o:=oR5) rfl (fun K hK=>?_) AllReadyH.nil
  unfold oR5
  go_simp
  go_wp2_with fail
  refine(iHaveInstrs _ z u.heap.size 1 1 [sp] true (zu D1).r (zu LI).2.1 rfl (by omega) (by first|simp|(simp;omega)) (at_new u.drew [sp] _ (by first|rfl|simp) rfl) (zu H0)).mono ?_
  rintro e u1 ⟨rfl,bb⟩
  have D2:=zh ((zu D1).step bb)
  have C2:=zh ((zu C1).keep (Keeps.below bb (by have:=(Box.lt (zu D1).v).2;omega)) l1 l2 l3 l4)
  have K6:=hold (zu D2) (zu C2)
  have zu1:=bb.size
  clear bb
  go_wp2_with fail
  refine hK.out _ _ K6 (fun hHeld=>?_)
  clear hK K
  try simp only[oR5,Act.put,zA,zB,zC]
  refine tk 6 oR6 (.bool false) rfl (by kernel_rfl) (fun _ _ _ h=>h) (by rfl) (fun w hSw=>?_) hHeld ?_
  ·(try dsimp only at hSw)
   unfold oR6
   go_simp
  try simp only[oR6,Act.put,zA,zB,zC]
  refine tk 7 oR7 (.bool false) rfl (by kernel_rfl) (fun _ _ _ h=>h) (by rfl) (fun w hSw=>?_) hHeld ?_
  ·(try dsimp only at hSw)
   unfold oR7
   go_simp
  try simp only[oR7,Act.put,zA,zB,zC]
  refine tk 8 oR8 (.pointer (some ⟨g,0,none⟩)) rfl (by kernel_rfl) (fun _ _ _ h=>h) (by rfl) (fun w hSw=>?_) hHeld ?_
  ·(try dsimp only at hSw)
   unfold oR8
   go_simp
  try simp only[oR8,Act.put,zA,zB,zC]
  refine tk 9 oR9 (.pointer (some ⟨g,0,none⟩)) rfl (by kernel_rfl) (fun _ _ _ h=>h) (by rfl) (fun w hSw=>?_) hHeld ?_
  ·(try dsimp only at hSw)
   unfold oR9
   go_simp
  try simp only[oR9,Act.put,zA,zB,zC]
  refine tk 10 oR10 (.agg #[.slice (some ⟨z.ga,0,none⟩) z.b.ac.length z.ca,.slice (some ⟨z.gi,0,none⟩) z.b.ic.length z.ci,.slice (some ⟨z.gb,0,none⟩) z.b.bs.length z.cb,.slice (some ⟨z.gl,0,none⟩) z.b.ls.length z.cl,.slice (some ⟨z.gt,0,none⟩) z.b.ts.length z.ct,.int .i64 z.b.lot]) rfl (by kernel_rfl) (fun _ _ _ h=>h) (by rfl) (fun w hSw=>?_) hHeld ?_
  ·(try dsimp only at hSw)
   unfold oR10
   go_simp
  try simp only[oR10,Act.put,zA,zB,zC]
  refine tk 11 oR11 (.int .i64 sy) rfl (by kernel_rfl) (fun _ _ _ h=>h) (by rfl) (fun w hSw=>?_) hHeld ?_
  ·(try dsimp only at hSw)
   unfold oR11
   go_simp
  try simp only[oR11,Act.put,zA,zB,zC]
  refine wpAnyH_ready (rs:=[12]) (by kernel_rfl) (by simp) ?_
  refine AllReadyH.cons (o:=oR12) rfl (fun K hK=>?_) AllReadyH.nil
  unfold oR12
  go_simp
  have D3:=zh ((zu D2).step (one_more _ (.cells #[.int .i64 sy] 3)))
  have C3:=zh ((zu C2).keep (Keeps.below (one_more _ (.cells #[.int .i64 sy] 3)) (by have:=(Box.lt (zu D2).v).2;omega)) l1 l2 l3 l4)
  have K7:=hold (zu D3) (zu C3)
  refine hK.out _ _ K7 (fun hHeld=>?_)
  clear hK K
  try simp only[oR12,Act.put,zA,zB,zC]
  refine wpAnyH_ready (rs:=[13]) (by kernel_rfl) (by simp) ?_
  refine AllReadyH.cons (o:=oR13) rfl (fun K hK=>?_) AllReadyH.nil
  unfold oR13
  go_simp
  go_wp2_with fail
  refine(iHaveAccounts _ z u1.heap.size 1 1 [sy] false (zu D3).r (zu LI).1 rfl (by omega) (by first|simp|(simp;omega)) (at_new u1 [sy] _ (by first|rfl|simp) rfl) (zu H1)).mono ?_
  rintro e u2 ⟨rfl,bb⟩
  have D4:=zh ((zu D3).step bb)
  have C4:=zh ((zu C3).keep (Keeps.below bb (by have:=(Box.lt (zu D3).v).2;omega)) l1 l2 l3 l4)
  have K8:=hold (zu D4) (zu C4)
  have zu2:=bb.size
  clear bb
  go_wp2_with fail
  refine hK.out _ _ K8 (fun hHeld=>?_)
  clear hK K
  try simp only[oR13,Act.put,zA,zB,zC]
  refine tk 14 oR14 (.bool true) rfl (by kernel_rfl) (fun _ _ _ h=>h) (by rfl) (fun w hSw=>?_) hHeld ?_
  ·(try dsimp only at hSw)
   unfold oR14
   go_simp
  try simp only[oR14,Act.put,zA,zB,zC]
  refine tk 15 oR15 (.bool true) rfl (by kernel_rfl) (fun _ _ _ h=>h) (by rfl) (fun w hSw=>?_) hHeld ?_
  ·(try dsimp only at hSw)
   unfold oR15
   go_simp
  try simp only[oR15,Act.put,zA,zB,zC]
  refine wpAnyH_done (by kernel_rfl) ?_ _
  have IZ:=zh (show IsSplit z.b sp sn sd sy z.b 0 3 from .inl ⟨by
   have:=(zu H1).no
   simp only[List.mem_cons,List.not_mem_nil,or_false,forall_eq_or_imp,forall_eq] at this
   unfold SplNone
   omega,rfl,rfl,rfl⟩)
  go_wp2
  go_ret2
  exact⟨z.b,0,3,.inr ⟨by omega,zu IZ⟩,rfl,.inr ⟨by omega,Var.any (zu D4).v⟩,(zu D4).grown⟩
 refine wp_region_held_drew (S:=(fun w'=>(w'.cell? ⟨g,0,none⟩=some (.slice (some ⟨z.ga,0,none⟩) z.b.ac.length z.ca)∧w'.cell? ⟨g,1,none⟩=some (.slice (some ⟨z.gi,0,none⟩) z.b.ic.length z.ci)∧w'.cell? ⟨g,2,none⟩=some (.slice (some ⟨z.gb,0,none⟩) z.b.bs.length z.cb)∧w'.cell? ⟨g,3,none⟩=some (.slice (some ⟨z.gl,0,none⟩) z.b.ls.length z.cl)∧w'.cell? ⟨g,4,none⟩=some (.slice (some ⟨z.gt,0,none⟩) z.b.ts.length z.ct)∧w'.cell? ⟨g,5,none⟩=some (.int .i64 z.b.lot))∧w'.cell? ⟨p1,0,none⟩=some (.int .i64 sp)∧w'.cell? ⟨p2,0,none⟩=some (.int .i64 sy)∧w'.cell? ⟨p3,0,none⟩=some (.int .i64 sn)∧w'.cell? ⟨p4,0,none⟩=some (.int .i64 sd))) (by kernel_rfl) K4 (fun hHeld=>?_)
 refine tk 0 oR0 (.pointer (some ⟨g,0,none⟩)) rfl (by kernel_rfl) (fun _ _ _ h=>h) (by rfl) (fun w hSw=>?_) hHeld ?_
 ·(try dsimp only at hSw)
  unfold oR0
  go_simp
 try simp only[oR0,Act.put,zA,zB,zC]
 refine tk 1 oR1 (.pointer (some ⟨g,0,none⟩)) rfl (by kernel_rfl) (fun _ _ _ h=>h) (by rfl) (fun w hSw=>?_) hHeld ?_
 ·(try dsimp only at hSw)
  unfold oR1
  go_simp
 try simp only[oR1,Act.put,zA,zB,zC]
 refine tk 2 oR2 (.agg #[.slice (some ⟨z.ga,0,none⟩) z.b.ac.length z.ca,.slice (some ⟨z.gi,0,none⟩) z.b.ic.length z.ci,.slice (some ⟨z.gb,0,none⟩) z.b.bs.length z.cb,.slice (some ⟨z.gl,0,none⟩) z.b.ls.length z.cl,.slice (some ⟨z.gt,0,none⟩) z.b.ts.length z.ct,.int .i64 z.b.lot]) rfl (by kernel_rfl) (fun _ _ _ h=>h) (by rfl) (fun w hSw=>?_) hHeld ?_
 ·(try dsimp only at hSw)
  unfold oR2
  go_simp
 try simp only[oR2,Act.put,zA,zB,zC]
 refine tk 3 oR3 (.int .i64 sp) rfl (by kernel_rfl) (fun _ _ _ h=>h) (by rfl) (fun w hSw=>?_) hHeld ?_
 ·(try dsimp only at hSw)
  unfold oR3
  go_simp
 try simp only[oR3,Act.put,zA,zB,zC]
 refine wpAnyH_ready (rs:=[4]) (by kernel_rfl) (by simp) ?_
 refine AllReadyH.cons (o:=oR4) rfl (fun K hK=>?_) AllReadyH.nil
 unfold oR4
 go_simp
 have D1:=zh ((zu D0).step (one_more _ (.cells #[.int .i64 sp] 3)))
 have C1:=zh ((zu C0).keep (Keeps.below (one_more _ (.cells #[.int .i64 sp] 3)) (by have:=(Box.lt (zu D0).v).2;omega)) l1 l2 l3 l4)
 have K5:=hold (zu D1) (zu C1)
 refine hK.out _ _ K5 (fun hHeld=>?_)
 clear hK K
 try simp only[oR4,Act.put,zA,zB,zC]
 refine wpAnyH_ready (rs:=[5]) (by kernel_rfl) (by simp) ?_
 refine AllReadyH.cons (o:=oR5) rfl (fun K hK=>?_) AllReadyH.nil
 unfold oR5
 go_simp
 go_wp2_with fail
 refine(iHaveInstrs _ z u.heap.size 1 1 [sp] true (zu D1).r (zu LI).2.1 rfl (by omega) (by first|simp|(simp;omega)) (at_new u.drew [sp] _ (by first|rfl|simp) rfl) (zu H0)).mono ?_
 rintro e u1 ⟨rfl,bb⟩
 have D2:=zh ((zu D1).step bb)
 have C2:=zh ((zu C1).keep (Keeps.below bb (by have:=(Box.lt (zu D1).v).2;omega)) l1 l2 l3 l4)
 have K6:=hold (zu D2) (zu C2)
 have zu1:=bb.size
 clear bb
 go_wp2_with fail
 refine hK.out _ _ K6 (fun hHeld=>?_)
 clear hK K
 try simp only[oR5,Act.put,zA,zB,zC]
 refine tk 6 oR6 (.bool false) rfl (by kernel_rfl) (fun _ _ _ h=>h) (by rfl) (fun w hSw=>?_) hHeld ?_
 ·(try dsimp only at hSw)
  unfold oR6
  go_simp
 try simp only[oR6,Act.put,zA,zB,zC]
 refine tk 7 oR7 (.bool false) rfl (by kernel_rfl) (fun _ _ _ h=>h) (by rfl) (fun w hSw=>?_) hHeld ?_
 ·(try dsimp only at hSw)
  unfold oR7
  go_simp
 try simp only[oR7,Act.put,zA,zB,zC]
 refine tk 8 oR8 (.pointer (some ⟨g,0,none⟩)) rfl (by kernel_rfl) (fun _ _ _ h=>h) (by rfl) (fun w hSw=>?_) hHeld ?_
 ·(try dsimp only at hSw)
  unfold oR8
  go_simp
 try simp only[oR8,Act.put,zA,zB,zC]
 refine tk 9 oR9 (.pointer (some ⟨g,0,none⟩)) rfl (by kernel_rfl) (fun _ _ _ h=>h) (by rfl) (fun w hSw=>?_) hHeld ?_
 ·(try dsimp only at hSw)
  unfold oR9
  go_simp
 try simp only[oR9,Act.put,zA,zB,zC]
 refine tk 10 oR10 (.agg #[.slice (some ⟨z.ga,0,none⟩) z.b.ac.length z.ca,.slice (some ⟨z.gi,0,none⟩) z.b.ic.length z.ci,.slice (some ⟨z.gb,0,none⟩) z.b.bs.length z.cb,.slice (some ⟨z.gl,0,none⟩) z.b.ls.length z.cl,.slice (some ⟨z.gt,0,none⟩) z.b.ts.length z.ct,.int .i64 z.b.lot]) rfl (by kernel_rfl) (fun _ _ _ h=>h) (by rfl) (fun w hSw=>?_) hHeld ?_
 ·(try dsimp only at hSw)
  unfold oR10
  go_simp
 try simp only[oR10,Act.put,zA,zB,zC]
 refine tk 11 oR11 (.int .i64 sy) rfl (by kernel_rfl) (fun _ _ _ h=>h) (by rfl) (fun w hSw=>?_) hHeld ?_
 ·(try dsimp only at hSw)
  unfold oR11
  go_simp
 try simp only[oR11,Act.put,zA,zB,zC]
 refine wpAnyH_ready (rs:=[12]) (by kernel_rfl) (by simp) ?_
 refine AllReadyH.cons (o:=oR12) rfl (fun K hK=>?_) AllReadyH.nil
 unfold oR12
 go_simp
 have D3:=zh ((zu D2).step (one_more _ (.cells #[.int .i64 sy] 3)))
 have C3:=zh ((zu C2).keep (Keeps.below (one_more _ (.cells #[.int .i64 sy] 3)) (by have:=(Box.lt (zu D2).v).2;omega)) l1 l2 l3 l4)
 have K7:=hold (zu D3) (zu C3)
 refine hK.out _ _ K7 (fun hHeld=>?_)
 clear hK K
 try simp only[oR12,Act.put,zA,zB,zC]
 refine wpAnyH_ready (rs:=[13]) (by kernel_rfl) (by simp) ?_
 refine AllReadyH.cons (o:=oR13) rfl (fun K hK=>?_) AllReadyH.nil
 unfold oR13
 go_simp
 go_wp2_with fail
 refine(iHaveAccounts _ z u1.heap.size 1 1 [sy] true (zu D3).r (zu LI).1 rfl (by omega) (by first|simp|(simp;omega)) (at_new u1 [sy] _ (by first|rfl|simp) rfl) (zu H1)).mono ?_
 rintro e u2 ⟨rfl,bb⟩
 have D4:=zh ((zu D3).step bb)
 have C4:=zh ((zu C3).keep (Keeps.below bb (by have:=(Box.lt (zu D3).v).2;omega)) l1 l2 l3 l4)
 have K8:=hold (zu D4) (zu C4)
 have zu2:=bb.size
 clear bb
 go_wp2_with fail
 refine hK.out _ _ K8 (fun hHeld=>?_)
 clear hK K
 try simp only[oR13,Act.put,zA,zB,zC]
 refine tk 14 oR14 (.bool false) rfl (by kernel_rfl) (fun _ _ _ h=>h) (by rfl) (fun w hSw=>?_) hHeld ?_
 ·(try dsimp only at hSw)
  unfold oR14
  go_simp
 try simp only[oR14,Act.put,zA,zB,zC]
 refine tk 15 oR15 (.bool false) rfl (by kernel_rfl) (fun _ _ _ h=>h) (by rfl) (fun w hSw=>?_) hHeld ?_
 ·(try dsimp only at hSw)
  unfold oR15
  go_simp
 try simp only[oR15,Act.put,zA,zB,zC]
 refine wpAnyH_done (by kernel_rfl) ?_ _
 have NZ:=zh (show ¬SplNone z.b sp sy from by
  have p:=(zu H0).yes
  have q:=(zu H1).yes
  simp only[List.mem_cons,List.not_mem_nil,or_false,forall_eq_or_imp,forall_eq] at p q
  unfold SplNone
  omega)
 clear H0 H1 K4 K5 K6 K7 K8 D0 C0 D1 C1 D2 C2 D3 C3
 go_wp2_with fail
 have D5:=zh (zu D4).drew
 have C5:=zh (show Cel u2.drew p1 p2 p3 p4 sp sy sn sd from zu C4)
 have K4:=hold (zu D5) (zu C5)
 cases t0
 ·refine wp_region_held_drew (S:=(fun w'=>(w'.cell? ⟨g,0,none⟩=some (.slice (some ⟨z.ga,0,none⟩) z.b.ac.length z.ca)∧w'.cell? ⟨g,1,none⟩=some (.slice (some ⟨z.gi,0,none⟩) z.b.ic.length z.ci)∧w'.cell? ⟨g,2,none⟩=some (.slice (some ⟨z.gb,0,none⟩) z.b.bs.length z.cb)∧w'.cell? ⟨g,3,none⟩=some (.slice (some ⟨z.gl,0,none⟩) z.b.ls.length z.cl)∧w'.cell? ⟨g,4,none⟩=some (.slice (some ⟨z.gt,0,none⟩) z.b.ts.length z.ct)∧w'.cell? ⟨g,5,none⟩=some (.int .i64 z.b.lot))∧w'.cell? ⟨p1,0,none⟩=some (.int .i64 sp)∧w'.cell? ⟨p2,0,none⟩=some (.int .i64 sy)∧w'.cell? ⟨p3,0,none⟩=some (.int .i64 sn)∧w'.cell? ⟨p4,0,none⟩=some (.int .i64 sd))) (by kernel_rfl) K4 (fun hHeld=>?_)
  refine tk 0 oT0 (.pointer (some ⟨g,0,none⟩)) rfl (by kernel_rfl) (fun _ _ _ h=>h) (by rfl) (fun w hSw=>?_) hHeld ?_
  ·(try dsimp only at hSw)
   unfold oT0
   go_simp
  try simp only[oT0,Act.put,zA,zB,zC]
  refine tk 1 oT1 (.pointer (some ⟨g,0,none⟩)) rfl (by kernel_rfl) (fun _ _ _ h=>h) (by rfl) (fun w hSw=>?_) hHeld ?_
  ·(try dsimp only at hSw)
   unfold oT1
   go_simp
  try simp only[oT1,Act.put,zA,zB,zC]
  refine tk 2 oT2 (.agg #[.slice (some ⟨z.ga,0,none⟩) z.b.ac.length z.ca,.slice (some ⟨z.gi,0,none⟩) z.b.ic.length z.ci,.slice (some ⟨z.gb,0,none⟩) z.b.bs.length z.cb,.slice (some ⟨z.gl,0,none⟩) z.b.ls.length z.cl,.slice (some ⟨z.gt,0,none⟩) z.b.ts.length z.ct,.int .i64 z.b.lot]) rfl (by kernel_rfl) (fun _ _ _ h=>h) (by rfl) (fun w hSw=>?_) hHeld ?_
  ·(try dsimp only at hSw)
   unfold oT2
   go_simp
  try simp only[oT2,Act.put,zA,zB,zC]
  refine tk 3 oT3 (.int .i64 sp) rfl (by kernel_rfl) (fun _ _ _ h=>h) (by rfl) (fun w hSw=>?_) hHeld ?_
  ·(try dsimp only at hSw)
   unfold oT3
   go_simp
  try simp only[oT3,Act.put,zA,zB,zC]
  refine wpAnyH_ready (rs:=[4]) (by kernel_rfl) (by simp) ?_
  refine AllReadyH.cons (o:=oT4) rfl (fun K hK=>?_) AllReadyH.nil
  unfold oT4
  go_simp
  go_wp2_with fail
  refine(IRead.iPaper _ z sp false (zu D5).r (zu LI).2.1 (zu Q0)).mono ?_
  rintro e u3 ⟨rfl,bb⟩
  have D6:=zh ((zu D5).step bb)
  have C6:=zh ((zu C5).keep (Keeps.below bb (by have:=(Box.lt (zu D5).v).2;omega)) l1 l2 l3 l4)
  have K5:=hold (zu D6) (zu C6)
  have zu3:=bb.size
  clear bb
  go_wp2_with fail
  refine hK.out _ _ K5 (fun hHeld=>?_)
  clear hK K
  try simp only[oT4,Act.put,zA,zB,zC]
  refine tk 5 oT5 (.bool true) rfl (by kernel_rfl) (fun _ _ _ h=>h) (by rfl) (fun w hSw=>?_) hHeld ?_
  ·(try dsimp only at hSw)
   unfold oT5
   go_simp
  try simp only[oT5,Act.put,zA,zB,zC]
  refine tk 6 oT6 (.bool true) rfl (by kernel_rfl) (fun _ _ _ h=>h) (by rfl) (fun w hSw=>?_) hHeld ?_
  ·(try dsimp only at hSw)
   unfold oT6
   go_simp
  try simp only[oT6,Act.put,zA,zB,zC]
  refine sk 7 oT7 rfl (by kernel_rfl) (fun _ _ _ h=>h) (by rfl) hHeld ?_
  try simp only[oT7,Act.put,zA,zB,zC]
  refine sk 8 oT8 rfl (by kernel_rfl) (fun _ _ _ h=>h) (by rfl) hHeld ?_
  try simp only[oT8,Act.put,zA,zB,zC]
  refine sk 9 oT9 rfl (by kernel_rfl) (fun _ _ _ h=>h) (by rfl) hHeld ?_
  try simp only[oT9,Act.put,zA,zB,zC]
  refine sk 10 oT10 rfl (by kernel_rfl) (fun _ _ _ h=>h) (by rfl) hHeld ?_
  try simp only[oT10,Act.put,zA,zB,zC]
  refine sk 11 oT11 rfl (by kernel_rfl) (fun _ _ _ h=>h) (by rfl) hHeld ?_
  try simp only[oT11,Act.put,zA,zB,zC]
  refine sk 12 oT12 rfl (by kernel_rfl) (fun _ _ _ h=>h) (by rfl) hHeld ?_
  try simp only[oT12,Act.put,zA,zB,zC]
  refine tk 13 oT13 (.bool true) rfl (by kernel_rfl) (fun _ _ _ h=>h) (by rfl) (fun w hSw=>?_) hHeld ?_
  ·(try dsimp only at hSw)
   unfold oT13
   go_simp
  try simp only[oT13,Act.put,zA,zB,zC]
  refine wpAnyH_done (by kernel_rfl) ?_ _
  have IZ:=zh (show IsSplit z.b sp sn sd sy z.b 0 4 from .inr (.inl ⟨zu NZ,.inr (zu Q0).no,rfl,rfl,rfl⟩))
  go_wp2
  go_ret2
  exact⟨z.b,0,4,.inr ⟨by omega,zu IZ⟩,rfl,.inr ⟨by omega,Var.any (zu D6).v⟩,(zu D6).grown⟩
 cases t1
 ·refine wp_region_held_drew (S:=(fun w'=>(w'.cell? ⟨g,0,none⟩=some (.slice (some ⟨z.ga,0,none⟩) z.b.ac.length z.ca)∧w'.cell? ⟨g,1,none⟩=some (.slice (some ⟨z.gi,0,none⟩) z.b.ic.length z.ci)∧w'.cell? ⟨g,2,none⟩=some (.slice (some ⟨z.gb,0,none⟩) z.b.bs.length z.cb)∧w'.cell? ⟨g,3,none⟩=some (.slice (some ⟨z.gl,0,none⟩) z.b.ls.length z.cl)∧w'.cell? ⟨g,4,none⟩=some (.slice (some ⟨z.gt,0,none⟩) z.b.ts.length z.ct)∧w'.cell? ⟨g,5,none⟩=some (.int .i64 z.b.lot))∧w'.cell? ⟨p1,0,none⟩=some (.int .i64 sp)∧w'.cell? ⟨p2,0,none⟩=some (.int .i64 sy)∧w'.cell? ⟨p3,0,none⟩=some (.int .i64 sn)∧w'.cell? ⟨p4,0,none⟩=some (.int .i64 sd))) (by kernel_rfl) K4 (fun hHeld=>?_)
  refine tk 0 oT0 (.pointer (some ⟨g,0,none⟩)) rfl (by kernel_rfl) (fun _ _ _ h=>h) (by rfl) (fun w hSw=>?_) hHeld ?_
  ·(try dsimp only at hSw)
   unfold oT0
   go_simp
  try simp only[oT0,Act.put,zA,zB,zC]
  refine tk 1 oT1 (.pointer (some ⟨g,0,none⟩)) rfl (by kernel_rfl) (fun _ _ _ h=>h) (by rfl) (fun w hSw=>?_) hHeld ?_
  ·(try dsimp only at hSw)
   unfold oT1
   go_simp
  try simp only[oT1,Act.put,zA,zB,zC]
  refine tk 2 oT2 (.agg #[.slice (some ⟨z.ga,0,none⟩) z.b.ac.length z.ca,.slice (some ⟨z.gi,0,none⟩) z.b.ic.length z.ci,.slice (some ⟨z.gb,0,none⟩) z.b.bs.length z.cb,.slice (some ⟨z.gl,0,none⟩) z.b.ls.length z.cl,.slice (some ⟨z.gt,0,none⟩) z.b.ts.length z.ct,.int .i64 z.b.lot]) rfl (by kernel_rfl) (fun _ _ _ h=>h) (by rfl) (fun w hSw=>?_) hHeld ?_
  ·(try dsimp only at hSw)
   unfold oT2
   go_simp
  try simp only[oT2,Act.put,zA,zB,zC]
  refine tk 3 oT3 (.int .i64 sp) rfl (by kernel_rfl) (fun _ _ _ h=>h) (by rfl) (fun w hSw=>?_) hHeld ?_
  ·(try dsimp only at hSw)
   unfold oT3
   go_simp
  try simp only[oT3,Act.put,zA,zB,zC]
  refine wpAnyH_ready (rs:=[4]) (by kernel_rfl) (by simp) ?_
  refine AllReadyH.cons (o:=oT4) rfl (fun K hK=>?_) AllReadyH.nil
  unfold oT4
  go_simp
  go_wp2_with fail
  refine(IRead.iPaper _ z sp true (zu D5).r (zu LI).2.1 (zu Q0)).mono ?_
  rintro e u3 ⟨rfl,bb⟩
  have D6:=zh ((zu D5).step bb)
  have C6:=zh ((zu C5).keep (Keeps.below bb (by have:=(Box.lt (zu D5).v).2;omega)) l1 l2 l3 l4)
  have K5:=hold (zu D6) (zu C6)
  have zu3:=bb.size
  clear bb
  go_wp2_with fail
  refine hK.out _ _ K5 (fun hHeld=>?_)
  clear hK K
  try simp only[oT4,Act.put,zA,zB,zC]
  refine tk 5 oT5 (.bool false) rfl (by kernel_rfl) (fun _ _ _ h=>h) (by rfl) (fun w hSw=>?_) hHeld ?_
  ·(try dsimp only at hSw)
   unfold oT5
   go_simp
  try simp only[oT5,Act.put,zA,zB,zC]
  refine tk 6 oT6 (.bool false) rfl (by kernel_rfl) (fun _ _ _ h=>h) (by rfl) (fun w hSw=>?_) hHeld ?_
  ·(try dsimp only at hSw)
   unfold oT6
   go_simp
  try simp only[oT6,Act.put,zA,zB,zC]
  refine tk 7 oT7 (.pointer (some ⟨g,0,none⟩)) rfl (by kernel_rfl) (fun _ _ _ h=>h) (by rfl) (fun w hSw=>?_) hHeld ?_
  ·(try dsimp only at hSw)
   unfold oT7
   go_simp
  try simp only[oT7,Act.put,zA,zB,zC]
  refine tk 8 oT8 (.pointer (some ⟨g,0,none⟩)) rfl (by kernel_rfl) (fun _ _ _ h=>h) (by rfl) (fun w hSw=>?_) hHeld ?_
  ·(try dsimp only at hSw)
   unfold oT8
   go_simp
  try simp only[oT8,Act.put,zA,zB,zC]
  refine tk 9 oT9 (.agg #[.slice (some ⟨z.ga,0,none⟩) z.b.ac.length z.ca,.slice (some ⟨z.gi,0,none⟩) z.b.ic.length z.ci,.slice (some ⟨z.gb,0,none⟩) z.b.bs.length z.cb,.slice (some ⟨z.gl,0,none⟩) z.b.ls.length z.cl,.slice (some ⟨z.gt,0,none⟩) z.b.ts.length z.ct,.int .i64 z.b.lot]) rfl (by kernel_rfl) (fun _ _ _ h=>h) (by rfl) (fun w hSw=>?_) hHeld ?_
  ·(try dsimp only at hSw)
   unfold oT9
   go_simp
  try simp only[oT9,Act.put,zA,zB,zC]
  refine tk 10 oT10 (.int .i64 sy) rfl (by kernel_rfl) (fun _ _ _ h=>h) (by rfl) (fun w hSw=>?_) hHeld ?_
  ·(try dsimp only at hSw)
   unfold oT10
   go_simp
  try simp only[oT10,Act.put,zA,zB,zC]
  refine wpAnyH_ready (rs:=[11]) (by kernel_rfl) (by simp) ?_
  refine AllReadyH.cons (o:=oT11) rfl (fun K hK=>?_) AllReadyH.nil
  unfold oT11
  go_simp
  go_wp2_with fail
  refine(IRead9.iIssuer _ z sy false (zu D6).r (zu LI).1 (zu Q1)).mono ?_
  rintro e u4 ⟨rfl,bb⟩
  have D7:=zh ((zu D6).step bb)
  have C7:=zh ((zu C6).keep (Keeps.below bb (by have:=(Box.lt (zu D6).v).2;omega)) l1 l2 l3 l4)
  have K6:=hold (zu D7) (zu C7)
  have zu4:=bb.size
  clear bb
  go_wp2_with fail
  refine hK.out _ _ K6 (fun hHeld=>?_)
  clear hK K
  try simp only[oT11,Act.put,zA,zB,zC]
  refine tk 12 oT12 (.bool true) rfl (by kernel_rfl) (fun _ _ _ h=>h) (by rfl) (fun w hSw=>?_) hHeld ?_
  ·(try dsimp only at hSw)
   unfold oT12
   go_simp
  try simp only[oT12,Act.put,zA,zB,zC]
  refine tk 13 oT13 (.bool true) rfl (by kernel_rfl) (fun _ _ _ h=>h) (by rfl) (fun w hSw=>?_) hHeld ?_
  ·(try dsimp only at hSw)
   unfold oT13
   go_simp
  try simp only[oT13,Act.put,zA,zB,zC]
  refine wpAnyH_done (by kernel_rfl) ?_ _
  have IZ:=zh (show IsSplit z.b sp sn sd sy z.b 0 4 from .inr (.inl ⟨zu NZ,.inl (zu Q1).no,rfl,rfl,rfl⟩))
  go_wp2
  go_ret2
  exact⟨z.b,0,4,.inr ⟨by omega,zu IZ⟩,rfl,.inr ⟨by omega,Var.any (zu D7).v⟩,(zu D7).grown⟩
 refine wp_region_held_drew (S:=(fun w'=>(w'.cell? ⟨g,0,none⟩=some (.slice (some ⟨z.ga,0,none⟩) z.b.ac.length z.ca)∧w'.cell? ⟨g,1,none⟩=some (.slice (some ⟨z.gi,0,none⟩) z.b.ic.length z.ci)∧w'.cell? ⟨g,2,none⟩=some (.slice (some ⟨z.gb,0,none⟩) z.b.bs.length z.cb)∧w'.cell? ⟨g,3,none⟩=some (.slice (some ⟨z.gl,0,none⟩) z.b.ls.length z.cl)∧w'.cell? ⟨g,4,none⟩=some (.slice (some ⟨z.gt,0,none⟩) z.b.ts.length z.ct)∧w'.cell? ⟨g,5,none⟩=some (.int .i64 z.b.lot))∧w'.cell? ⟨p1,0,none⟩=some (.int .i64 sp)∧w'.cell? ⟨p2,0,none⟩=some (.int .i64 sy)∧w'.cell? ⟨p3,0,none⟩=some (.int .i64 sn)∧w'.cell? ⟨p4,0,none⟩=some (.int .i64 sd))) (by kernel_rfl) K4 (fun hHeld=>?_)
 refine tk 0 oT0 (.pointer (some ⟨g,0,none⟩)) rfl (by kernel_rfl) (fun _ _ _ h=>h) (by rfl) (fun w hSw=>?_) hHeld ?_
 ·(try dsimp only at hSw)
  unfold oT0
  go_simp
 try simp only[oT0,Act.put,zA,zB,zC]
 refine tk 1 oT1 (.pointer (some ⟨g,0,none⟩)) rfl (by kernel_rfl) (fun _ _ _ h=>h) (by rfl) (fun w hSw=>?_) hHeld ?_
 ·(try dsimp only at hSw)
  unfold oT1
  go_simp
 try simp only[oT1,Act.put,zA,zB,zC]
 refine tk 2 oT2 (.agg #[.slice (some ⟨z.ga,0,none⟩) z.b.ac.length z.ca,.slice (some ⟨z.gi,0,none⟩) z.b.ic.length z.ci,.slice (some ⟨z.gb,0,none⟩) z.b.bs.length z.cb,.slice (some ⟨z.gl,0,none⟩) z.b.ls.length z.cl,.slice (some ⟨z.gt,0,none⟩) z.b.ts.length z.ct,.int .i64 z.b.lot]) rfl (by kernel_rfl) (fun _ _ _ h=>h) (by rfl) (fun w hSw=>?_) hHeld ?_
 ·(try dsimp only at hSw)
  unfold oT2
  go_simp
 try simp only[oT2,Act.put,zA,zB,zC]
 refine tk 3 oT3 (.int .i64 sp) rfl (by kernel_rfl) (fun _ _ _ h=>h) (by rfl) (fun w hSw=>?_) hHeld ?_
 ·(try dsimp only at hSw)
  unfold oT3
  go_simp
 try simp only[oT3,Act.put,zA,zB,zC]
 refine wpAnyH_ready (rs:=[4]) (by kernel_rfl) (by simp) ?_
 refine AllReadyH.cons (o:=oT4) rfl (fun K hK=>?_) AllReadyH.nil
 unfold oT4
 go_simp
 go_wp2_with fail
 refine(IRead.iPaper _ z sp true (zu D5).r (zu LI).2.1 (zu Q0)).mono ?_
 rintro e u3 ⟨rfl,bb⟩
 have D6:=zh ((zu D5).step bb)
 have C6:=zh ((zu C5).keep (Keeps.below bb (by have:=(Box.lt (zu D5).v).2;omega)) l1 l2 l3 l4)
 have K5:=hold (zu D6) (zu C6)
 have zu3:=bb.size
 clear bb
 go_wp2_with fail
 refine hK.out _ _ K5 (fun hHeld=>?_)
 clear hK K
 try simp only[oT4,Act.put,zA,zB,zC]
 refine tk 5 oT5 (.bool false) rfl (by kernel_rfl) (fun _ _ _ h=>h) (by rfl) (fun w hSw=>?_) hHeld ?_
 ·(try dsimp only at hSw)
  unfold oT5
  go_simp
 try simp only[oT5,Act.put,zA,zB,zC]
 refine tk 6 oT6 (.bool false) rfl (by kernel_rfl) (fun _ _ _ h=>h) (by rfl) (fun w hSw=>?_) hHeld ?_
 ·(try dsimp only at hSw)
  unfold oT6
  go_simp
 try simp only[oT6,Act.put,zA,zB,zC]
 refine tk 7 oT7 (.pointer (some ⟨g,0,none⟩)) rfl (by kernel_rfl) (fun _ _ _ h=>h) (by rfl) (fun w hSw=>?_) hHeld ?_
 ·(try dsimp only at hSw)
  unfold oT7
  go_simp
 try simp only[oT7,Act.put,zA,zB,zC]
 refine tk 8 oT8 (.pointer (some ⟨g,0,none⟩)) rfl (by kernel_rfl) (fun _ _ _ h=>h) (by rfl) (fun w hSw=>?_) hHeld ?_
 ·(try dsimp only at hSw)
  unfold oT8
  go_simp
 try simp only[oT8,Act.put,zA,zB,zC]
 refine tk 9 oT9 (.agg #[.slice (some ⟨z.ga,0,none⟩) z.b.ac.length z.ca,.slice (some ⟨z.gi,0,none⟩) z.b.ic.length z.ci,.slice (some ⟨z.gb,0,none⟩) z.b.bs.length z.cb,.slice (some ⟨z.gl,0,none⟩) z.b.ls.length z.cl,.slice (some ⟨z.gt,0,none⟩) z.b.ts.length z.ct,.int .i64 z.b.lot]) rfl (by kernel_rfl) (fun _ _ _ h=>h) (by rfl) (fun w hSw=>?_) hHeld ?_
 ·(try dsimp only at hSw)
  unfold oT9
  go_simp
 try simp only[oT9,Act.put,zA,zB,zC]
 refine tk 10 oT10 (.int .i64 sy) rfl (by kernel_rfl) (fun _ _ _ h=>h) (by rfl) (fun w hSw=>?_) hHeld ?_
 ·(try dsimp only at hSw)
  unfold oT10
  go_simp
 try simp only[oT10,Act.put,zA,zB,zC]
 refine wpAnyH_ready (rs:=[11]) (by kernel_rfl) (by simp) ?_
 refine AllReadyH.cons (o:=oT11) rfl (fun K hK=>?_) AllReadyH.nil
 unfold oT11
 go_simp
 go_wp2_with fail
 refine(IRead9.iIssuer _ z sy true (zu D6).r (zu LI).1 (zu Q1)).mono ?_
 rintro e u4 ⟨rfl,bb⟩
 have D7:=zh ((zu D6).step bb)
 have C7:=zh ((zu C6).keep (Keeps.below bb (by have:=(Box.lt (zu D6).v).2;omega)) l1 l2 l3 l4)
 have K6:=hold (zu D7) (zu C7)
 have zu4:=bb.size
 clear bb
 go_wp2_with fail
 refine hK.out _ _ K6 (fun hHeld=>?_)
 clear hK K
 try simp only[oT11,Act.put,zA,zB,zC]
 refine tk 12 oT12 (.bool false) rfl (by kernel_rfl) (fun _ _ _ h=>h) (by rfl) (fun w hSw=>?_) hHeld ?_
 ·(try dsimp only at hSw)
  unfold oT12
  go_simp
 try simp only[oT12,Act.put,zA,zB,zC]
 refine tk 13 oT13 (.bool false) rfl (by kernel_rfl) (fun _ _ _ h=>h) (by rfl) (fun w hSw=>?_) hHeld ?_
 ·(try dsimp only at hSw)
  unfold oT13
  go_simp
 try simp only[oT13,Act.put,zA,zB,zC]
 refine wpAnyH_done (by kernel_rfl) ?_ _
 have NK:=zh (show ¬SplKind z.b sp sy from by
  have a:=(zu Q0).yes
  have b:=(zu Q1).yes
  unfold SplKind
  omega)
 have KY:=zh (zu Q0).yes
 obtain⟨e1,e2,e3,e4⟩:=zu C7
 go_wp2_with fail
 refine(SplitI.iSplit _ z base g sp sn sd sy (zu TT) (zu KY) (zu D7).v (zu D7).o hg).mono ?_
 rintro e u9 ⟨b',t,c,hR,rfl,hz,gr⟩
 have HR:=zh (hR.split (zu NZ) (zu NK))
 have HZ:=zh hz
 have GR:=zh (Pairs.grown_trans (zu D7).grown gr)
 clear hR hz gr
 go_wp2
 go_ret2
 exact⟨b',t,c,zu HR,rfl,zu HZ,zu GR⟩
end SplitC
namespace SplitTellI
open BMem Bks ILists BHelp Ans ICopied ICmdB IHave ICmdF
open SIssue (to_wb off_box)
open IssueTellI (says_and more)
open IBalsFit (one_more all_one)
open ITrade (at_new)
open Lots (Says says_of NoOk)
open SMove (AnsM)
open Split (IsSplit)
open SSplitB (ToldS)
structure TW(w W:World)(x:Bx)(sp sn sd sy:Int):Prop where
 r:Rd W x
 c:Cl W w.heap.size x
 n1:W.cell? ⟨w.heap.size+1,0,none⟩=some (.int .i64 sp)
 n2:W.cell? ⟨w.heap.size+1+1,0,none⟩=some (.int .i64 sn)
 n3:W.cell? ⟨w.heap.size+1+1+1,0,none⟩=some (.int .i64 sd)
 n4:W.cell? ⟨w.heap.size+1+1+1+1,0,none⟩=some (.int .i64 sy)
 v:Box W w.heap.size (w.heap.size+1+1+1+1+1) (.slice none 0 0) (.slice none 0 0) (.slice none 0 0) (.slice none 0 0) (.slice none 0 0) (.int .i64 0)
 b:Below w.heap.size w W
theorem TW.step{w W W':World}{x:Bx}{sp sn sd sy:Int}(h:TW w W x sp sn sd sy)(k:Below W.heap.size W W'):TW w W' x sp sn sd sy:=by
 have l:=h.v.lt
 exact⟨h.r.below k,h.c.below k (by omega),(k.cell (p:=⟨w.heap.size+1,0,none⟩) (by simp<;>omega)).trans h.n1,(k.cell (p:=⟨w.heap.size+1+1,0,none⟩) (by simp<;>omega)).trans h.n2,(k.cell (p:=⟨w.heap.size+1+1+1,0,none⟩) (by simp<;>omega)).trans h.n3,(k.cell (p:=⟨w.heap.size+1+1+1+1,0,none⟩) (by simp<;>omega)).trans h.n4,h.v.below k (by omega),h.b.trans (k.mono h.b.size)⟩
theorem TW.start{w:World}{x:Bx}{sp sn sd sy:Int}(h:Rd w x):TW w ((((((w.alloc (.cells #[.slice (some ⟨x.ga,0,none⟩) x.b.ac.length x.ca,.slice (some ⟨x.gi,0,none⟩) x.b.ic.length x.ci,.slice (some ⟨x.gb,0,none⟩) x.b.bs.length x.cb,.slice (some ⟨x.gl,0,none⟩) x.b.ls.length x.cl,.slice (some ⟨x.gt,0,none⟩) x.b.ts.length x.ct,.int .i64 x.b.lot] 36)).alloc (.cells #[.int .i64 sp] 3)).alloc (.cells #[.int .i64 sn] 3)).alloc (.cells #[.int .i64 sd] 3)).alloc (.cells #[.int .i64 sy] 3)).alloc (.cells #[.slice none 0 0,.slice none 0 0,.slice none 0 0,.slice none 0 0,.slice none 0 0,.int .i64 0] 36)) x sp sn sd sy:=by
 have b:Below (w.heap.size+1) (w.alloc (.cells #[.slice (some ⟨x.ga,0,none⟩) x.b.ac.length x.ca,.slice (some ⟨x.gi,0,none⟩) x.b.ic.length x.ci,.slice (some ⟨x.gb,0,none⟩) x.b.bs.length x.cb,.slice (some ⟨x.gl,0,none⟩) x.b.ls.length x.cl,.slice (some ⟨x.gt,0,none⟩) x.b.ts.length x.ct,.int .i64 x.b.lot] 36)) ((((((w.alloc (.cells #[.slice (some ⟨x.ga,0,none⟩) x.b.ac.length x.ca,.slice (some ⟨x.gi,0,none⟩) x.b.ic.length x.ci,.slice (some ⟨x.gb,0,none⟩) x.b.bs.length x.cb,.slice (some ⟨x.gl,0,none⟩) x.b.ls.length x.cl,.slice (some ⟨x.gt,0,none⟩) x.b.ts.length x.ct,.int .i64 x.b.lot] 36)).alloc (.cells #[.int .i64 sp] 3)).alloc (.cells #[.int .i64 sn] 3)).alloc (.cells #[.int .i64 sd] 3)).alloc (.cells #[.int .i64 sy] 3)).alloc (.cells #[.slice none 0 0,.slice none 0 0,.slice none 0 0,.slice none 0 0,.slice none 0 0,.int .i64 0] 36)):=
  (((((Below.refl _ _).alloc (by simp) _).alloc (by simp<;>omega) _).alloc (by simp<;>omega) _).alloc (by simp<;>omega) _).alloc (by simp<;>omega) _
 refine⟨h.below (((Below.refl w.heap.size w).alloc (Nat.le_refl _) _).trans (b.mono (by omega))),(boxed w x 36).below b (by omega),?_,?_,?_,?_,Box.made _ _ _ _ _ _ (by simp<;>omega) (by simp),((Below.refl w.heap.size w).alloc (Nat.le_refl _) _).trans (b.mono (by omega))⟩
 ·exact more (more (more (more (cell_new _ _ _ (by simp)) (by simp) _) (by simp<;>omega) _) (by simp<;>omega) _) (by simp<;>omega) _
 ·exact more (more (more (cell_new _ _ _ (by simp)) (by simp) _) (by simp<;>omega) _) (by simp<;>omega) _
 ·exact more (more (cell_new _ _ _ (by simp)) (by simp) _) (by simp<;>omega) _
 ·exact more (cell_new _ _ _ (by simp)) (by simp) _
theorem iTell(w:World)(x:Bx)(sp sn sd sy:Int)(h:Rd w x):
  Calls Tryz.prog 20 #[.agg #[.slice (some ⟨x.ga,0,none⟩) x.b.ac.length x.ca,.slice (some ⟨x.gi,0,none⟩) x.b.ic.length x.ci,.slice (some ⟨x.gb,0,none⟩) x.b.bs.length x.cb,.slice (some ⟨x.gl,0,none⟩) x.b.ls.length x.cl,.slice (some ⟨x.gt,0,none⟩) x.b.ts.length x.ct,.int .i64 x.b.lot],.int .i64 sp,.int .i64 sn,.int .i64 sd,.int .i64 sy] w (ICmdV.AnsV (ToldS x.b sp sn sd sy) (IsSplit x.b sp sn sd sy) w):=by
 obtain⟨b1,h1⟩:=says_of (∀y∈[sp,sy],NoOk y)
 obtain⟨b2,h2⟩:=says_of (1≤sn∧sn≤1000000)
 obtain⟨b3,h3⟩:=says_of (1≤sd∧sd≤1000000)
 have HT:=zh (show Says (b1&&(b2&&(b3))) (NoOk sp∧(1≤sn∧sn≤1000000)∧(1≤sd∧sd≤1000000)∧NoOk sy) from by
  have a:=says_and h1 (says_and h2 (h3))
  refine⟨fun e=>?_,fun r=>a.of ⟨?_,r.2.1,r.2.2.1⟩⟩
  ·have:=a.1 e
   exact⟨this.1 sp (by simp),this.2.1,this.2.2,this.1 sy (by simp)⟩
  ·intro y hy
   simp only[List.mem_cons,List.not_mem_nil,or_false] at hy
   rcases hy with rfl|rfl
   ·exact r.1
   ·exact r.2.2.2)
 have H1:=zh h1
 have H2:=zh h2
 have H3:=zh h3
 have S0:=zh (TW.start (sp:=sp) (sn:=sn) (sd:=sd) (sy:=sy) h)
 clear h1 h2 h3 h
 go_enter Tryz.func20,Tryz.ntmps20
 go_wp2_with fail
 have S1:=zh ((zu S0).step (one_more _ (.cells #[.int .i64 sp,.int .i64 sy] 3)))
 refine(iNumbers _ (w.heap.size+1+1+1+1+1+1) 2 2 [sp,sy] b1 rfl (by omega) (by simp) (at_new _ [sp,sy] _ (by simp) rfl) (zu H1)).mono ?_
 rintro e w2 ⟨rfl,bb⟩
 have S2:=zh ((zu S1).step bb)
 clear bb S1 S0
 obtain⟨c0,c1,c2,c3,c4,c5⟩:=(zu S2).c
 have m1:=(zu S2).n1
 have m2:=(zu S2).n2
 have m3:=(zu S2).n3
 have m4:=(zu S2).n4
 have hmf:∀(fn:Fn) (first cp:Array Value) (w:World),(Instr.makeFunc fn first cp).run Tryz.prog w= .ok (.func fn first cp) w:=fun _ _ _ _=>rfl
 have HF:=zh (show Ok x.b→(NoOk sp∧(1≤sn∧sn≤1000000)∧(1≤sd∧sd≤1000000)∧NoOk sy)→∀(u:World) (z:Bx),z.b=x.b→Var u w2.heap.size (w2.heap.size+1) z→Ow u (w2.heap.size+4) z→Below w2.heap.size w2 u→Calls Tryz.prog 74 (#[.pointer (some ⟨w2.heap.size+1,0,none⟩)]++ #[.pointer (some ⟨w.heap.size+1,0,none⟩),.pointer (some ⟨w.heap.size+1+1+1+1,0,none⟩),.pointer (some ⟨w.heap.size+1+1,0,none⟩),.pointer (some ⟨w.heap.size+1+1+1,0,none⟩)]) u (ICmdV.DoesV (FxI.DoneP (IsSplit x.b sp sn sd sy) x.b) w2.heap.size (w2.heap.size+1) u) from by
  intro ok ta u z hz V O bb
  have l:=(zu S2).v.lt
  have q:=SplitC.iClosure u z w2.heap.size (w2.heap.size+1) (w.heap.size+1) (w.heap.size+1+1+1+1) (w.heap.size+1+1) (w.heap.size+1+1+1) sp sy sn sd ⟨(bb.cell (p:=⟨w.heap.size+1,0,none⟩) (by simp<;>omega)).trans m1,(bb.cell (p:=⟨w.heap.size+1+1+1+1,0,none⟩) (by simp<;>omega)).trans m4,(bb.cell (p:=⟨w.heap.size+1+1,0,none⟩) (by simp<;>omega)).trans m2,(bb.cell (p:=⟨w.heap.size+1+1+1,0,none⟩) (by simp<;>omega)).trans m3⟩ (by omega) (by omega) (by omega) (by omega) (by rw[hz];exact⟨ok,ta⟩) V O (by omega)
  rw[hz] at q
  exact q)
 cases b1
 rotate_left
 go_wp2_with fail
 refine(SplitI.iRatio sn b2 _ (zu H2)).mono ?_
 rintro e v1 ⟨rfl,hv⟩
 rw[hv]
 clear hv
 cases b2
 rotate_left
 go_wp2_with fail
 refine(SplitI.iRatio sd b3 _ (zu H3)).mono ?_
 rintro e v2 ⟨rfl,hv⟩
 rw[hv]
 clear hv
 cases b3
 all_goals
  (clear H1 H2 H3
   go_wp2_with fail
   refine(ICmdV.iCmdV _ x _ (NoOk sp∧(1≤sn∧sn≤1000000)∧(1≤sd∧sd≤1000000)∧NoOk sy) 74 _ (FxI.DoneP (IsSplit x.b sp sn sd sy) x.b) (zu S2).r (zu HT) (fun _ _=>rfl) (zu HF)).mono ?_
   clear HF HT
   intro e w3 hA
   obtain⟨a0,a1,a2,a3,a4,n0,n1,n2,n3,n4,k0,k1,k2,k3,k4,l,t,c,rfl,fin,bb⟩:=ICmdV.fin_ofV hA
   have S3:=zh ((zu S2).step bb)
   have FN:=zh fin
   have lw:w.heap.size+1+1+1+1+1<w2.heap.size:=(zu S2).v.lt.2
   have lw3:w.heap.size+1+1+1+1+1<w3.heap.size:=(zu S3).v.lt.2
   have lw4:w.heap.size+1+1+1+1+1≠w3.heap.size:=by omega
   clear hA fin bb c0 c1 c2 c3 c4 c5 m1 m2 m3 m4
   obtain⟨r0,r1,r2,r3,r4,r5,f0,f1,f2,f3,f4,f5⟩:=Box.all ((zu S3).v)
   go_wp2
   refine to_wb (fun W=>Box W w.heap.size (w.heap.size+1+1+1+1+1) (.slice a0 n0 k0) (.slice a1 n1 k1) (.slice a2 n2 k2) (.slice a3 n3 k3) (.slice a4 n4 k4) (.int .i64 l)∧ICmdV.FinV ((NoOk sp∧(1≤sn∧sn≤1000000)∧(1≤sd∧sd≤1000000)∧NoOk sy)∧Ok x.b) x.b (FxI.DoneP (IsSplit x.b sp sn sd sy) x.b) w2.heap.size a0 a1 a2 a3 a4 n0 n1 n2 n3 n4 k0 k1 k2 k3 k4 l t c W∧Below w.heap.size w W) ?_ ?_
   ·exact⟨(box_six (zu S3).v _ _ _ _ _ _).1,(zu FN).six (zu S3).v _ _ _ _ _ _,six (zu S3).b (by omega) _ _ _ _ _ _⟩
   rintro W ⟨X,FI,B⟩
   have g0:=X.c0
   have g1:=X.c1
   have g2:=X.c2
   have g3:=X.c3
   have g4:=X.c4
   have g5:=X.c5
   exact bodyPost_ret (v:= .tuple #[.agg #[.slice a0 n0 k0,.slice a1 n1 k1,.slice a2 n2 k2,.slice a3 n3 k3,.slice a4 n4 k4,.int .i64 l],.int .i64 t,.int .i64 c]) (by simp[results,Tryz.results20,go_sem,g0,g1,g2,g3,g4,g5]) rfl (by
     have A:=ICmdV.fin_ansV (w:=w) (Q:=IsSplit x.b sp sn sd sy) FI (zu S2).b.size B (fun b' t h=>h.done) (fun b' t c h hc=>h.not hc)
     rcases A with(⟨a,a2,a3⟩|⟨a,a2⟩)|⟨a,a2⟩
     ·exact .inl (.inl ⟨fun hh=>a ⟨hh.2,hh.1⟩,a2,a3⟩)
     ·exact .inl (.inr ⟨⟨a.2,a.1⟩,a2⟩)
     ·exact .inr ⟨⟨a.2,a.1⟩,a2⟩))
end SplitTellI
end Go.Proofs.YtnmeiiaipacplaaGreat
