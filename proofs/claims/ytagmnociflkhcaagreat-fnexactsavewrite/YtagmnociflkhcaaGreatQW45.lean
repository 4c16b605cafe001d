/- Texts of one proof, one behind the other: LawW16. -/
import Derived.Test.YtagmnociflkhcaaGreatRows
import Derived.Test.YtagmnociflkhcaaGreatQW0
import Derived.Test.YtagmnociflkhcaaGreatQW36
import Derived.Test.YtagmnociflkhcaaGreatQW42
import Derived.Test.YtagmnociflkhcaaGreatQW44
set_option linter.unusedVariables false
set_option linter.unusedSimpArgs false
open Go.ChangeShapes Go.WideShapes Go.ChangeAt Go.RowKit
set_option maxRecDepth 100000
set_option maxHeartbeats 32000000
namespace Go.Proofs.YtagmnociflkhcaaGreat
namespace LawW16
open Fil14 OpensF14 DiskH14 DkH14 SDk14 SOk14 SRd14 SCom14 Law14 SAppend14 SSync14 SMove14 SStep16 SWrite16 LawV16 SaveH16
open BMem (Bx Rd Ow)
open Bks (Bk)
open BHelp (Ix RdI Turn Up Lo ow_up ow_lo row_block)
open SSave16 (Sv saveD)
open SClear15 (clearD stays)
theorem len_less{ps:List TF}(h:ps.length≤1048576):(lessD ps).length≤1048576:=by
 unfold lessD
 split
 ·exact Nat.le_trans (less_len _ _ _) h
 ·exact h
theorem len_clear{room:Int}{ps:List TF}(ks:List Int)(h:ps.length≤1048576):(clearD room ps ks).2.length≤1048576:=by
 unfold SClear15.clearD
 split
 ·have:=List.length_filter_le (stays ks) ps
  show(ps.filter (stays ks)).length≤_
  omega
 ·simp
theorem len_step{room:Int}{ps:List TF}(tx:ByteArray×Bool)(k:Int)(h:ps.length≤1048576):(stepD room ps tx k).1.2.length≤1048576:=by
 unfold stepD
 split
 ·unfold stepsD
  split
  ·unfold firstD
   split
   ·exact LenAppend14.len_append 20 tx.1 (len_less h)
   ·exact h
  ·split
   ·exact LenSync14.len_sync 20 h
   ·split
    ·exact LenMove14.len_move 20 21 h
    ·exact len_clear [] h
 ·simp
theorem len_wr{room:Int}{ps:List TF}(tx:ByteArray×Bool)(h:ps.length≤1048576):∀n k (cur:Int×List TF),cur.2.length≤1048576→(wrF room ps tx n k cur).1.2.length≤1048576
 |0,k,cur=>fun hc=>hc
 |n+1,k,cur=>fun hc=>by
  unfold wrF
  split
  ·simp
  ·split
   ·exact len_wr tx h n _ _ (len_step tx k hc)
   ·exact h
theorem len_write{room:Int}{ps:List TF}(tx:ByteArray×Bool)(h:ps.length≤1048576):(writeD room ps tx).1.2.length≤1048576:=len_wr tx h 4 0 _ h
theorem Ls.low{w W W':World}{g:Nat}{f:Int}{y:Ix}{B:Nat}(H:RdI w y)(h:Ls w W g f y)(b:Below B W W')(hg:g<B)(hB:w.heap.size≤B):Ls w W' g f y:=by
 have q:=h.b.trans (b.mono hB)
 exact⟨H.below q,⟨(b.cell (p:=⟨g,0,none⟩) hg).trans h.c.f,(b.cell (p:=⟨g,1,none⟩) hg).trans h.c.c0,(b.cell (p:=⟨g,2,none⟩) hg).trans h.c.c1,(b.cell (p:=⟨g,3,none⟩) hg).trans h.c.c2,(b.cell (p:=⟨g,4,none⟩) hg).trans h.c.c3,(b.cell (p:=⟨g,5,none⟩) hg).trans h.c.c4,(b.cell (p:=⟨g,6,none⟩) hg).trans h.c.c5,Nat.lt_of_lt_of_le h.c.lt b.size⟩,q⟩
theorem rd_low{W W':World}{x:Dx}{B:Nat}(h:RdD W x)(b:Below B W W')(hx:∀g,x.a=some ⟨g,0,none⟩→g<B):RdD W' x:=
 ⟨h.e,fun g e=>⟨Nat.lt_of_lt_of_le (h.r g e).1 b.size,fun i hi=>by
  obtain⟨p0,p1,p2⟩:=(h.r g e).2 i hi
  have q:W'.heap[g]?=W.heap[g]?:=b.block g (hx g e)
  exact⟨(World.cell?_of_block (w:=W) q).trans p0,(World.cell?_of_block (w:=W) q).trans p1,(World.cell?_of_block (w:=W) q).trans p2⟩⟩,h.n⟩
theorem kd_low{W W':World}{g:Nat}{x:Dx}{B:Nat}(h:Kd W g x)(b:Below B W W')(hg:g<B):Kd W' g x:=
 ⟨(b.cell (p:=⟨g,0,none⟩) hg).trans h.c0,(b.cell (p:=⟨g,1,none⟩) hg).trans h.c1,Nat.lt_of_lt_of_le h.lt b.size⟩
theorem ow_turnD{W W':World}{base:Nat}{z:Bx}{x:Dx}(h:Ow W base z)(k:TurnD x W W')(n:∀g,base≤g→some g≠(Value.slice x.a x.ps.length x.c).ownBlock):Ow W' base z:=
 ⟨row_block h.oa (k.block _ h.oa.lt.2 (n _ h.oa.lt.1)),row_block h.oi (k.block _ h.oi.lt.2 (n _ h.oi.lt.1)),row_block h.ob (k.block _ h.ob.lt.2 (n _ h.ob.lt.1)),row_block h.ol (k.block _ h.ol.lt.2 (n _ h.ol.lt.1)),row_block h.ot (k.block _ h.ot.lt.2 (n _ h.ot.lt.1))⟩
theorem own_turnB{W W':World}{base N:Nat}{y:Dx}{z:Bx}(h:OwD W base y)(k:Turn z W W')(up:Up z N)(hN:N≤base):OwD W' base y:=by
 refine⟨h.1,?_⟩
 rcases h.2 with h1|⟨g,c,cur,h1,h2,h3,h4⟩
 ·exact .inl h1
 ·have lg:=(World.ownsRow.lt h g (by rw[h1];rfl)).2
  exact .inr ⟨g,c,cur,h1,h2,(k.block g lg (by unfold Up at up;omega) (by unfold Up at up;omega) (by unfold Up at up;omega) (by unfold Up at up;omega) (by unfold Up at up;omega)).trans h3,h4⟩
theorem kd_turnB{W W':World}{g N:Nat}{y:Dx}{z:Bx}(h:Kd W g y)(k:Turn z W W')(up:Up z N)(hN:N≤g):Kd W' g y:=by
 have e:W'.heap[g]?=W.heap[g]?:=k.block g h.lt (by unfold Up at up;omega) (by unfold Up at up;omega) (by unfold Up at up;omega) (by unfold Up at up;omega) (by unfold Up at up;omega)
 exact⟨(World.cell?_of_block (w:=W) e).trans h.c0,(World.cell?_of_block (w:=W) e).trans h.c1,Nat.lt_of_lt_of_le h.lt k.size⟩
structure Bs(W:World)(g:Nat)(f:Int)(x:Bx):Prop where
 f:W.cell? ⟨g,0,none⟩=some (.int .i64 f)
 c0:W.cell? ⟨g,1,none⟩=some (.slice (some ⟨x.ga,0,none⟩) x.b.ac.length x.ca)
 c1:W.cell? ⟨g,2,none⟩=some (.slice (some ⟨x.gi,0,none⟩) x.b.ic.length x.ci)
 c2:W.cell? ⟨g,3,none⟩=some (.slice (some ⟨x.gb,0,none⟩) x.b.bs.length x.cb)
 c3:W.cell? ⟨g,4,none⟩=some (.slice (some ⟨x.gl,0,none⟩) x.b.ls.length x.cl)
 c4:W.cell? ⟨g,5,none⟩=some (.slice (some ⟨x.gt,0,none⟩) x.b.ts.length x.ct)
 c5:W.cell? ⟨g,6,none⟩=some (.int .i64 x.b.lot)
 lt:g<W.heap.size
theorem Bs.made(W:World)(f:Int)(x:Bx)(e:TypeId):Bs (W.alloc (.cells #[.int .i64 f,.slice (some ⟨x.ga,0,none⟩) x.b.ac.length x.ca,.slice (some ⟨x.gi,0,none⟩) x.b.ic.length x.ci,.slice (some ⟨x.gb,0,none⟩) x.b.bs.length x.cb,.slice (some ⟨x.gl,0,none⟩) x.b.ls.length x.cl,.slice (some ⟨x.gt,0,none⟩) x.b.ts.length x.ct,.int .i64 x.b.lot] e)) W.heap.size f x:=⟨by simp,by simp,by simp,by simp,by simp,by simp,by simp,by simp⟩
theorem Bs.of{W W':World}{g:Nat}{f:Int}{x:Bx}(h:Bs W g f x)(e:W'.heap[g]?=W.heap[g]?)(s:W.heap.size≤W'.heap.size):Bs W' g f x:=
 ⟨(World.cell?_of_block (w:=W) e).trans h.f,(World.cell?_of_block (w:=W) e).trans h.c0,(World.cell?_of_block (w:=W) e).trans h.c1,(World.cell?_of_block (w:=W) e).trans h.c2,(World.cell?_of_block (w:=W) e).trans h.c3,(World.cell?_of_block (w:=W) e).trans h.c4,(World.cell?_of_block (w:=W) e).trans h.c5,Nat.lt_of_lt_of_le h.lt s⟩
theorem Bs.step{W W':World}{g:Nat}{f:Int}{x:Bx}(h:Bs W g f x)(k:Below W.heap.size W W'):Bs W' g f x:=h.of (k.block g h.lt) k.size
theorem rd_kept{W W':World}{x:Dx}{G:Nat}(h:RdD W x)(k:W.grownBy W' (some G))(hx:∀g,x.a=some ⟨g,0,none⟩→g≠G):RdD W' x:=
 ⟨h.e,fun g e=>⟨Nat.lt_of_lt_of_le (h.r g e).1 k.size,fun i hi=>by
  obtain⟨p0,p1,p2⟩:=(h.r g e).2 i hi
  have q:W'.heap[g]?=W.heap[g]?:=k.block g (h.r g e).1 (by simpa using hx g e)
  exact⟨(World.cell?_of_block (w:=W) q).trans p0,(World.cell?_of_block (w:=W) q).trans p1,(World.cell?_of_block (w:=W) q).trans p2⟩⟩,h.n⟩
theorem om_low{W W':World}{base B:Nat}{x:Dx}(h:OmD W base x)(b:Below B W W')(hx:∀g,(Value.slice x.a x.ps.length x.c).ownBlock=some g→g<B):OmD W' base x:=by
 refine⟨h.1,?_⟩
 rcases h.2 with h1|⟨g,c,cur,h1,h2,h3,h4⟩
 ·exact .inl h1
 ·exact .inr ⟨g,c,cur,h1,h2,(b.block g (hx g (by rw[h1];rfl))).trans h3,h4⟩
theorem om_lt{W:World}{base g:Nat}{x:Dx}(h:OmD W base x)(e:(Value.slice x.a x.ps.length x.c).ownBlock=some g):base≤g∧g<W.heap.size:=World.ownsRow.lt h g e
theorem low_of{V V':World}{g:Nat}(k:V.grownBy V' (some g))(hg:g<V.heap.size):Below g V V':=⟨k.os,k.tape,k.output,k.size,fun j hj=>k.block j (by omega) (by simp;omega)⟩
theorem boxed_in{V:World}{base g:Nat}{y:Dx}{v0 v1:Value}(h:Bc V base g v0 v1):V.grownBy ((V.setCell ⟨g,0,none⟩ (.int .i64 y.room)).setCell ⟨g,1,none⟩ (.slice y.a y.ps.length y.c)) (some g)∧Kd ((V.setCell ⟨g,0,none⟩ (.int .i64 y.room)).setCell ⟨g,1,none⟩ (.slice y.a y.ps.length y.c)) g y:=by
 have s0:=h.set0 (.int .i64 y.room)
 have s1:=SLess14.bc_set1 s0.1 (.slice y.a y.ps.length y.c)
 exact⟨App14.grow_grow s0.2 s1.2,s1.1.c0,s1.1.c1,s1.1.lt.2⟩
theorem reg_rest{α:Type}{P:Program}{id:Nat}{ops:Array Oper}{K:Act→World→Prop}{Q':Exit→Act→World→Prop}{a:Act}{w:World}(f:Act→α→Act)(Fc:α→World→Prop)(h:∀x U,Fc x U→K (f a x) U)(hw:(Code.region id ops true).wp P (Exit.then (fun a' w'=>∃x,a'=f a x∧Fc x w') Q') a w):(Code.region id ops true).wp P (Exit.then K Q') a w:=
 Code.wp_mono (fun e a' w' hq=>by
  cases e
  case normal=>
   obtain⟨x,rfl,hx⟩:=hq
   exact h x w' hx
  all_goals exact hq) hw
end LawW16
end Go.Proofs.YtagmnociflkhcaaGreat
