/- Texts of one proof. -/
import Derived.Test.YtlbgfdpcgpijhaaGreatQA35
import Derived.Test.YtlbgfdpcgpijhaaGreatQA37
open Go.ChangeShapes Go.WideShapes Go.ChangeAt Go.RowKit
set_option linter.unusedVariables false
set_option linter.unusedSimpArgs false
set_option maxRecDepth 100000
set_option maxHeartbeats 32000000
namespace Go.Proofs.YtlbgfdpcgpijhaaGreat
namespace LawW16
open Fil14 OpensF14 DiskH14 DkH14 SDk14 SOk14 SCom14 Law14 SStep16 LawV16 SaveH16
open BMem (Bx Rd Ow)
open Bks (Bk)
open BHelp (Ix RdI Turn Up Lo ow_up row_block)
open SSave16 (Sv)
theorem Ls.low{w W W':World}{g:Nat}{f:Int}{y:Ix}{B:Nat}(H:RdI w y)(h:Ls w W g f y)(b:Below B W W')(hg:g<B)(hB:w.heap.size≤B):Ls w W' g f y:=by
 have q:=h.b.trans (b.mono hB)
 exact⟨H.below q,⟨(b.cell (p:=⟨g,0,none⟩) hg).trans h.c.f,(b.cell (p:=⟨g,1,none⟩) hg).trans h.c.c0,(b.cell (p:=⟨g,2,none⟩) hg).trans h.c.c1,(b.cell (p:=⟨g,3,none⟩) hg).trans h.c.c2,(b.cell (p:=⟨g,4,none⟩) hg).trans h.c.c3,(b.cell (p:=⟨g,5,none⟩) hg).trans h.c.c4,(b.cell (p:=⟨g,6,none⟩) hg).trans h.c.c5,Nat.lt_of_lt_of_le h.c.lt b.size⟩,q⟩
theorem rd_low{W W':World}{x:Dx}{B:Nat}(h:RdD W x)(b:Below B W W')(hx:∀g,x.a=some ⟨g,0,none⟩→g<B):RdD W' x:=
 ⟨h.e,fun g e=>⟨Nat.lt_of_lt_of_le (h.r g e).1 b.size,fun i hi=>by
  obtain⟨p0,p1,p2⟩:=(h.r g e).2 i hi
  have q:W'.heap[g]?=W.heap[g]?:=b.block g (hx g e)
  exact⟨(World.cell?_of_block (w:=W) q).trans p0,(World.cell?_of_block (w:=W) q).trans p1,(World.cell?_of_block (w:=W) q).trans p2⟩⟩,h.n⟩
theorem kd_low{W W':World}{g:Nat}{x:Dx}{B:Nat}(h:Kd W g x)(b:Below B W W')(hg:g<B):Kd W' g x:=
 ⟨(b.cell (p:=⟨g,0,none⟩) hg).trans h.c0,(b.cell (p:=⟨g,1,none⟩) hg).trans h.c1,Nat.lt_of_lt_of_le h.lt b.size⟩
structure Bs(W:World)(g:Nat)(f:Int)(x:Bx):Prop where
 f:W.cell? ⟨g,0,none⟩=some (.int .i64 f)
 c0:W.cell? ⟨g,1,none⟩=some (.slice (some ⟨x.ga,0,none⟩) x.b.ac.length x.ca)
 c1:W.cell? ⟨g,2,none⟩=some (.slice (some ⟨x.gi,0,none⟩) x.b.ic.length x.ci)
 c2:W.cell? ⟨g,3,none⟩=some (.slice (some ⟨x.gb,0,none⟩) x.b.bs.length x.cb)
 c3:W.cell? ⟨g,4,none⟩=some (.slice (some ⟨x.gl,0,none⟩) x.b.ls.length x.cl)
 c4:W.cell? ⟨g,5,none⟩=some (.slice (some ⟨x.gt,0,none⟩) x.b.ts.length x.ct)
 c5:W.cell? ⟨g,6,none⟩=some (.int .i64 x.b.lot)
 lt:g<W.heap.size
theorem Bs.made(W:World)(f:Int)(x:Bx)(e:TypeId):Bs (W.alloc (.cells #[.int .i64 f,.slice (some ⟨x.ga,0,none⟩) x.b.ac.length x.ca,.slice (some ⟨x.gi,0,none⟩) x.b.ic.length x.ci,.slice (some ⟨x.gb,0,none⟩) x.b.bs.length x.cb,.slice (some ⟨x.gl,0,none⟩) x.b.ls.length x.cl,.slice (some ⟨x.gt,0,none⟩) x.b.ts.length x.ct,.int .i64 x.b.lot] e)) W.heap.size f x:=⟨by simp,by simp,by simp,by simp,by simp,by simp,by simp,by simp⟩
theorem Bs.of{W W':World}{g:Nat}{f:Int}{x:Bx}(h:Bs W g f x)(e:W'.heap[g]?=W.heap[g]?)(s:W.heap.size≤W'.heap.size):Bs W' g f x:=
 ⟨(World.cell?_of_block (w:=W) e).trans h.f,(World.cell?_of_block (w:=W) e).trans h.c0,(World.cell?_of_block (w:=W) e).trans h.c1,(World.cell?_of_block (w:=W) e).trans h.c2,(World.cell?_of_block (w:=W) e).trans h.c3,(World.cell?_of_block (w:=W) e).trans h.c4,(World.cell?_of_block (w:=W) e).trans h.c5,Nat.lt_of_lt_of_le h.lt s⟩
theorem Bs.step{W W':World}{g:Nat}{f:Int}{x:Bx}(h:Bs W g f x)(k:Below W.heap.size W W'):Bs W' g f x:=h.of (k.block g h.lt) k.size
end LawW16
namespace EFin17
open Fil14 DkH14 SDk14 EBx17 BMemV13 VB13
open BMem (Bx Rd Ow)
open Bks (Bk)
open BHelp (Ix)
open Bx16 (grow_grow grow_low)
theorem row_kept2{w w':World}{base g:Nat}{e:TypeId}{m:Nat}{v:Value}{l:Nat}{vs:List Value}(o:w.ownsRow base e m v l vs)(k:w.grownBy w' (some g))(n:g<base):w'.ownsRow base e m v l vs:=by
 refine⟨o.1,?_⟩
 rcases o.2 with h1|⟨g',c,cur,h1,h2,h3,h4⟩
 ·exact .inl h1
 ·have lg:=World.ownsRow.lt o g' (by rw[h1];rfl)
  exact .inr ⟨g',c,cur,h1,h2,(k.block g' lg.2 (by simp;omega)).trans h3,h4⟩
theorem row_base2{w:World}{base base':Nat}{e:TypeId}{m:Nat}{v:Value}{l:Nat}{vs:List Value}(o:w.ownsRow base e m v l vs)(n:base'≤base):w.ownsRow base' e m v l vs:=by
 refine⟨o.1,?_⟩
 rcases o.2 with h1|⟨g',c,cur,h1,h2,h3⟩
 ·exact .inl h1
 ·exact .inr ⟨g',c,cur,h1,Nat.le_trans n h2,h3⟩
theorem ownV_kept{w w':World}{base:Nat}{x:Ix}{g:Nat}(h:OwV w base x)(k:w.grownBy w' (some g))(n:g<base):OwV w' base x:=
 ⟨row_kept2 h.oa k n,row_kept2 h.oi k n,row_kept2 h.ob k n,row_kept2 h.ol k n,row_kept2 h.ot k n⟩
theorem ownV_base{w:World}{base base':Nat}{x:Ix}(h:OwV w base x)(n:base'≤base):OwV w base' x:=
 ⟨row_base2 h.oa n,row_base2 h.oi n,row_base2 h.ob n,row_base2 h.ol n,row_base2 h.ot n⟩
def ixB(z:Bx):Ix:=⟨some ⟨z.ga,0,none⟩,z.ca,some ⟨z.gi,0,none⟩,z.ci,some ⟨z.gb,0,none⟩,z.cb,some ⟨z.gl,0,none⟩,z.cl,some ⟨z.gt,0,none⟩,z.ct,z.b⟩
def noI:Ix:=⟨none,0,none,0,none,0,none,0,none,0,⟨[],[],[],[],[],0⟩⟩
theorem ownV_no(w:World)(base:Nat):OwV w base noI:=⟨⟨rfl,.inl ⟨rfl,rfl⟩⟩,⟨rfl,.inl ⟨rfl,rfl⟩⟩,⟨rfl,.inl ⟨rfl,rfl⟩⟩,⟨rfl,.inl ⟨rfl,rfl⟩⟩,⟨rfl,.inl ⟨rfl,rfl⟩⟩⟩
def noD:Dx:=⟨0,none,0,[]⟩
theorem ownD_no(w:World)(base:Nat):OwD w base noD:=⟨rfl,.inl ⟨rfl,rfl⟩⟩
abbrev PE:=Bool×(Int×List TF)×Bk×Int×Int
def noE:PE:=(false,(0,[]),⟨[],[],[],[],[],0⟩,0,0)
def ToldE(r:PE×Int)(w:World)(e:Ending)(w':World):Prop:=∃(x:Dx) (y:Ix),(x.room,x.ps)=r.1.2.1∧y.b=r.1.2.2.1∧e= .returned (.tuple #[.agg #[.bool r.1.1,.int .i64 x.room,.slice x.a x.ps.length x.c,.slice y.aa y.b.ac.length y.ca,.slice y.ai y.b.ic.length y.ci,.slice y.ab y.b.bs.length y.cb,.slice y.al y.b.ls.length y.cl,.slice y.ats y.b.ts.length y.ct,.int .i64 y.b.lot,.int .i64 r.1.2.2.2.1,.int .i64 r.1.2.2.2.2],.int .i64 r.2])∧OwD w' w.heap.size x∧OwV w' w.heap.size y∧Below w.heap.size w w'
def ToldE1(r:PE)(w:World)(e:Ending)(w':World):Prop:=∃(x:Dx) (y:Ix),(x.room,x.ps)=r.2.1∧y.b=r.2.2.1∧e= .returned (.agg #[.bool r.1,.int .i64 x.room,.slice x.a x.ps.length x.c,.slice y.aa y.b.ac.length y.ca,.slice y.ai y.b.ic.length y.ci,.slice y.ab y.b.bs.length y.cb,.slice y.al y.b.ls.length y.cl,.slice y.ats y.b.ts.length y.ct,.int .i64 y.b.lot,.int .i64 r.2.2.2.1,.int .i64 r.2.2.2.2])∧OwD w' w.heap.size x∧OwV w' w.heap.size y∧Below w.heap.size w w'
theorem ended17{w u:World}{base0 g:Nat}{v0 v1 v2 v3 v4 v5 v6 v7 v8 v9 v10:Value}{x:Dx}{y:Ix}(up:Bool)(sg ct:Int)(b:Below w.heap.size w u)(rb:Bx11 u w.heap.size g v0 v1 v2 v3 v4 v5 v6 v7 v8 v9 v10)(ox:OwD u base0 x)(oy:OwV u base0 y)(hb:g<base0):
  Below w.heap.size w ((((((((((((u).setCell ⟨g,0,none⟩ (.bool up)).setCell ⟨g,1,none⟩ (.int .i64 x.room)).setCell ⟨g,2,none⟩ (.slice x.a x.ps.length x.c)).setCell ⟨g,3,none⟩ (.slice y.aa y.b.ac.length y.ca)).setCell ⟨g,4,none⟩ (.slice y.ai y.b.ic.length y.ci)).setCell ⟨g,5,none⟩ (.slice y.ab y.b.bs.length y.cb)).setCell ⟨g,6,none⟩ (.slice y.al y.b.ls.length y.cl)).setCell ⟨g,7,none⟩ (.slice y.ats y.b.ts.length y.ct)).setCell ⟨g,8,none⟩ (.int .i64 y.b.lot)).setCell ⟨g,9,none⟩ (.int .i64 sg)).setCell ⟨g,10,none⟩ (.int .i64 ct))∧Bx11 ((((((((((((u).setCell ⟨g,0,none⟩ (.bool up)).setCell ⟨g,1,none⟩ (.int .i64 x.room)).setCell ⟨g,2,none⟩ (.slice x.a x.ps.length x.c)).setCell ⟨g,3,none⟩ (.slice y.aa y.b.ac.length y.ca)).setCell ⟨g,4,none⟩ (.slice y.ai y.b.ic.length y.ci)).setCell ⟨g,5,none⟩ (.slice y.ab y.b.bs.length y.cb)).setCell ⟨g,6,none⟩ (.slice y.al y.b.ls.length y.cl)).setCell ⟨g,7,none⟩ (.slice y.ats y.b.ts.length y.ct)).setCell ⟨g,8,none⟩ (.int .i64 y.b.lot)).setCell ⟨g,9,none⟩ (.int .i64 sg)).setCell ⟨g,10,none⟩ (.int .i64 ct)) w.heap.size g (.bool up) (.int .i64 x.room) (.slice x.a x.ps.length x.c) (.slice y.aa y.b.ac.length y.ca) (.slice y.ai y.b.ic.length y.ci) (.slice y.ab y.b.bs.length y.cb) (.slice y.al y.b.ls.length y.cl) (.slice y.ats y.b.ts.length y.ct) (.int .i64 y.b.lot) (.int .i64 sg) (.int .i64 ct)∧OwD ((((((((((((u).setCell ⟨g,0,none⟩ (.bool up)).setCell ⟨g,1,none⟩ (.int .i64 x.room)).setCell ⟨g,2,none⟩ (.slice x.a x.ps.length x.c)).setCell ⟨g,3,none⟩ (.slice y.aa y.b.ac.length y.ca)).setCell ⟨g,4,none⟩ (.slice y.ai y.b.ic.length y.ci)).setCell ⟨g,5,none⟩ (.slice y.ab y.b.bs.length y.cb)).setCell ⟨g,6,none⟩ (.slice y.al y.b.ls.length y.cl)).setCell ⟨g,7,none⟩ (.slice y.ats y.b.ts.length y.ct)).setCell ⟨g,8,none⟩ (.int .i64 y.b.lot)).setCell ⟨g,9,none⟩ (.int .i64 sg)).setCell ⟨g,10,none⟩ (.int .i64 ct)) w.heap.size x∧OwV ((((((((((((u).setCell ⟨g,0,none⟩ (.bool up)).setCell ⟨g,1,none⟩ (.int .i64 x.room)).setCell ⟨g,2,none⟩ (.slice x.a x.ps.length x.c)).setCell ⟨g,3,none⟩ (.slice y.aa y.b.ac.length y.ca)).setCell ⟨g,4,none⟩ (.slice y.ai y.b.ic.length y.ci)).setCell ⟨g,5,none⟩ (.slice y.ab y.b.bs.length y.cb)).setCell ⟨g,6,none⟩ (.slice y.al y.b.ls.length y.cl)).setCell ⟨g,7,none⟩ (.slice y.ats y.b.ts.length y.ct)).setCell ⟨g,8,none⟩ (.int .i64 y.b.lot)).setCell ⟨g,9,none⟩ (.int .i64 sg)).setCell ⟨g,10,none⟩ (.int .i64 ct)) w.heap.size y∧u.grownBy ((((((((((((u).setCell ⟨g,0,none⟩ (.bool up)).setCell ⟨g,1,none⟩ (.int .i64 x.room)).setCell ⟨g,2,none⟩ (.slice x.a x.ps.length x.c)).setCell ⟨g,3,none⟩ (.slice y.aa y.b.ac.length y.ca)).setCell ⟨g,4,none⟩ (.slice y.ai y.b.ic.length y.ci)).setCell ⟨g,5,none⟩ (.slice y.ab y.b.bs.length y.cb)).setCell ⟨g,6,none⟩ (.slice y.al y.b.ls.length y.cl)).setCell ⟨g,7,none⟩ (.slice y.ats y.b.ts.length y.ct)).setCell ⟨g,8,none⟩ (.int .i64 y.b.lot)).setCell ⟨g,9,none⟩ (.int .i64 sg)).setCell ⟨g,10,none⟩ (.int .i64 ct)) (some g):=by
 have t:=rb.all (.bool up) (.int .i64 x.room) (.slice x.a x.ps.length x.c) (.slice y.aa y.b.ac.length y.ca) (.slice y.ai y.b.ic.length y.ci) (.slice y.ab y.b.bs.length y.cb) (.slice y.al y.b.ls.length y.cl) (.slice y.ats y.b.ts.length y.ct) (.int .i64 y.b.lot) (.int .i64 sg) (.int .i64 ct)
 have lt:=rb.lt
 exact⟨grow_low b t.2 ⟨by omega,b.size⟩,t.1,row_base2 (row_kept2 ox t.2 hb) (by omega),ownV_base (ownV_kept oy t.2 hb) (by omega),t.2⟩
end EFin17
namespace EngB17
open Fil14 OpensF14 DiskH14 DkH14 SDk14 Law14 BMemV13 VB13 EBx17 EFin17 EBk17
open BMem (Bx Rd Ow Small)
open Bks (Bk)
open BHelp (Ix RdI Up ow_up)
open LawR13 (UpV up_mono)
structure Rg(lo hi:Nat)(w w':World):Prop where
 os:w'.os=w.os
 tape:w'.tape=w.tape
 output:w'.output=w.output
 size:w.heap.size≤w'.heap.size
 block:∀k,k<w.heap.size→k<lo∨hi≤k→w'.heap[k]?=w.heap[k]?
section
variable {lo hi:Nat} {w w' w'':World}
theorem Rg.below(h:Rg lo hi w w')(l:lo≤w.heap.size):Below lo w w':=⟨h.os,h.tape,h.output,h.size,fun k hk=>h.block k (by omega) (.inl hk)⟩
theorem Rg.of(h:Below w.heap.size w w'):Rg lo hi w w':=⟨h.os,h.tape,h.output,h.size,fun k hk _=>h.block k hk⟩
theorem Rg.trans(h:Rg lo hi w w')(k:Rg lo hi w' w''):Rg lo hi w w'':=⟨k.os.trans h.os,k.tape.trans h.tape,k.output.trans h.output,Nat.le_trans h.size k.size,fun j hj hn=>(k.block j (Nat.lt_of_lt_of_le hj h.size) hn).trans (h.block j hj hn)⟩
theorem row_out{base:Nat}{e:TypeId}{m:Nat}{v:Value}{n:Nat}{vs:List Value}(h:w.ownsRow base e m v n vs)(k:Rg lo hi w w')(nn:∀g,v.ownBlock=some g→g<lo∨hi≤g):w'.ownsRow base e m v n vs:=by
 refine⟨h.1,?_⟩
 rcases h.2 with h1|⟨g,c,cur,h1,h2,h3,h4⟩
 ·exact .inl h1
 ·have o:v.ownBlock=some g:=by rw[h1];rfl
  exact .inr ⟨g,c,cur,h1,h2,(k.block g (World.ownsRow.lt h g o).2 (nn g o)).trans h3,h4⟩
end
structure K11(W:World)(g:Nat)(v0 v1 v2 v3 v4 v5 v6 v7 v8 v9 v10:Value):Prop where
 c0:W.cell? ⟨g,0,none⟩=some v0
 c1:W.cell? ⟨g,1,none⟩=some v1
 c2:W.cell? ⟨g,2,none⟩=some v2
 c3:W.cell? ⟨g,3,none⟩=some v3
 c4:W.cell? ⟨g,4,none⟩=some v4
 c5:W.cell? ⟨g,5,none⟩=some v5
 c6:W.cell? ⟨g,6,none⟩=some v6
 c7:W.cell? ⟨g,7,none⟩=some v7
 c8:W.cell? ⟨g,8,none⟩=some v8
 c9:W.cell? ⟨g,9,none⟩=some v9
 c10:W.cell? ⟨g,10,none⟩=some v10
 lt:g<W.heap.size
theorem K11.cs{w:World}{g:Nat}{v0 v1 v2 v3 v4 v5 v6 v7 v8 v9 v10:Value}(h:K11 w g v0 v1 v2 v3 v4 v5 v6 v7 v8 v9 v10):w.cell? ⟨g,0,none⟩=some v0∧w.cell? ⟨g,1,none⟩=some v1∧w.cell? ⟨g,2,none⟩=some v2∧w.cell? ⟨g,3,none⟩=some v3∧w.cell? ⟨g,4,none⟩=some v4∧w.cell? ⟨g,5,none⟩=some v5∧w.cell? ⟨g,6,none⟩=some v6∧w.cell? ⟨g,7,none⟩=some v7∧w.cell? ⟨g,8,none⟩=some v8∧w.cell? ⟨g,9,none⟩=some v9∧w.cell? ⟨g,10,none⟩=some v10:=⟨h.c0,h.c1,h.c2,h.c3,h.c4,h.c5,h.c6,h.c7,h.c8,h.c9,h.c10⟩
theorem K11.made(W:World)(v0 v1 v2 v3 v4 v5 v6 v7 v8 v9 v10:Value)(e:TypeId):K11 (W.alloc (.cells #[v0,v1,v2,v3,v4,v5,v6,v7,v8,v9,v10] e)) W.heap.size v0 v1 v2 v3 v4 v5 v6 v7 v8 v9 v10:=⟨by simp,by simp,by simp,by simp,by simp,by simp,by simp,by simp,by simp,by simp,by simp,by simp⟩
theorem K11.of{W W':World}{g:Nat}{v0 v1 v2 v3 v4 v5 v6 v7 v8 v9 v10:Value}(h:K11 W g v0 v1 v2 v3 v4 v5 v6 v7 v8 v9 v10)(e:W'.heap[g]?=W.heap[g]?)(s:W.heap.size≤W'.heap.size):K11 W' g v0 v1 v2 v3 v4 v5 v6 v7 v8 v9 v10:=
 have q:∀i,W'.cell? ⟨g,i,none⟩=W.cell? ⟨g,i,none⟩:=fun i=>World.cell?_of_block (w:=W) e
 ⟨(q 0).trans h.c0,(q 1).trans h.c1,(q 2).trans h.c2,(q 3).trans h.c3,(q 4).trans h.c4,(q 5).trans h.c5,(q 6).trans h.c6,(q 7).trans h.c7,(q 8).trans h.c8,(q 9).trans h.c9,(q 10).trans h.c10,Nat.lt_of_lt_of_le h.lt s⟩
theorem K11.low{W W':World}{g B:Nat}{v0 v1 v2 v3 v4 v5 v6 v7 v8 v9 v10:Value}(h:K11 W g v0 v1 v2 v3 v4 v5 v6 v7 v8 v9 v10)(k:Below B W W')(hg:g<B):K11 W' g v0 v1 v2 v3 v4 v5 v6 v7 v8 v9 v10:=h.of (k.block g hg) k.size
theorem K11.out{W W':World}{g lo hi:Nat}{v0 v1 v2 v3 v4 v5 v6 v7 v8 v9 v10:Value}(h:K11 W g v0 v1 v2 v3 v4 v5 v6 v7 v8 v9 v10)(k:Rg lo hi W W')(hg:g<lo∨hi≤g):K11 W' g v0 v1 v2 v3 v4 v5 v6 v7 v8 v9 v10:=h.of (k.block g h.lt hg) k.size
theorem K11.step{W W':World}{g:Nat}{v0 v1 v2 v3 v4 v5 v6 v7 v8 v9 v10:Value}(h:K11 W g v0 v1 v2 v3 v4 v5 v6 v7 v8 v9 v10)(k:Below W.heap.size W W'):K11 W' g v0 v1 v2 v3 v4 v5 v6 v7 v8 v9 v10:=h.low k h.lt
theorem K11.box{W:World}{base g:Nat}{v0 v1 v2 v3 v4 v5 v6 v7 v8 v9 v10:Value}(h:Bx11 W base g v0 v1 v2 v3 v4 v5 v6 v7 v8 v9 v10):K11 W g v0 v1 v2 v3 v4 v5 v6 v7 v8 v9 v10:=⟨h.c0,h.c1,h.c2,h.c3,h.c4,h.c5,h.c6,h.c7,h.c8,h.c9,h.c10,h.lt.2⟩
structure Ar(w W:World)(up:Bool)(n:Int)(a:Option Addr)(len cap:Nat)(ps:List TF)(y:Ix)(sg ct:Int):Prop where
 k:K11 W w.heap.size (.bool up) (.int .i64 n) (.slice a len cap) (.slice y.aa y.b.ac.length y.ca) (.slice y.ai y.b.ic.length y.ci) (.slice y.ab y.b.bs.length y.cb) (.slice y.al y.b.ls.length y.cl) (.slice y.ats y.b.ts.length y.ct) (.int .i64 y.b.lot) (.int .i64 sg) (.int .i64 ct)
 b:Below w.heap.size w W
 rd:ReadsF W a ps
 rb:RdI W y
section
variable {w W W':World} {up:Bool} {n:Int} {a:Option Addr} {len cap:Nat} {ps:List TF} {y:Ix} {sg ct:Int}
theorem Ar.start(hd:ReadsF w a ps)(hb:RdI w y)(e:TypeId):Ar w (w.alloc (.cells #[.bool up,.int .i64 n,.slice a len cap,.slice y.aa y.b.ac.length y.ca,.slice y.ai y.b.ic.length y.ci,.slice y.ab y.b.bs.length y.cb,.slice y.al y.b.ls.length y.cl,.slice y.ats y.b.ts.length y.ct,.int .i64 y.b.lot,.int .i64 sg,.int .i64 ct] e)) up n a len cap ps y sg ct:=
 ⟨K11.made w (.bool up) (.int .i64 n) (.slice a len cap) (.slice y.aa y.b.ac.length y.ca) (.slice y.ai y.b.ic.length y.ci) (.slice y.ab y.b.bs.length y.cb) (.slice y.al y.b.ls.length y.cl) (.slice y.ats y.b.ts.length y.ct) (.int .i64 y.b.lot) (.int .i64 sg) (.int .i64 ct) e,one_more _ _,hd.below (one_more _ _),hb.below (one_more _ _)⟩
theorem Ar.low{B:Nat}(h:Ar w W up n a len cap ps y sg ct)(hd:ReadsF w a ps)(hb:RdI w y)(k:Below B W W')(l:w.heap.size<B):Ar w W' up n a len cap ps y sg ct:=
 have q:=h.b.trans (k.mono (Nat.le_of_lt l))
 ⟨h.k.low k l,q,hd.below q,hb.below q⟩
theorem Ar.step(h:Ar w W up n a len cap ps y sg ct)(k:Below W.heap.size W W'):Ar w W' up n a len cap ps y sg ct:=
 ⟨h.k.step k,h.b.trans (k.mono (Nat.le_of_lt h.k.lt)),h.rd.below k,h.rb.below k⟩
end
structure Re(W:World)(x:Dx)(y:Ix):Prop where
 d:RdD W x
 b:RdV W y
def Ube(N:Nat)(x:Dx)(y:Ix):Prop:=(∀g,x.a=some ⟨g,0,none⟩→g<N)∧UpV y N
theorem ube_mono{N M:Nat}{x:Dx}{y:Ix}(h:Ube N x y)(k:N≤M):Ube M x y:=⟨fun g e=>Nat.lt_of_lt_of_le (h.1 g e) k,up_mono h.2 k⟩
theorem Re.low{W W':World}{x:Dx}{y:Ix}{B:Nat}(h:Re W x y)(u:Ube B x y)(k:Below B W W'):Re W' x y:=⟨LawW16.rd_low h.d k u.1,LawR13.rd_low h.b u.2 k⟩
theorem Re.step{W W':World}{x:Dx}{y:Ix}(h:Re W x y)(k:Below W.heap.size W W'):Re W' x y:=⟨h.d.below k,h.b.below k⟩
theorem rdV_of{W:World}{z:Bx}(h:Rd W z):RdV W (ixB z):=
 ⟨fun _=>⟨_,rfl⟩,fun g e=>by cases e;exact⟨h.la,h.ra⟩,h.na,fun _=>⟨_,rfl⟩,fun g e=>by cases e;exact⟨h.li,h.ri⟩,h.ni,fun _=>⟨_,rfl⟩,fun g e=>by cases e;exact⟨h.lb,h.rb⟩,h.nb,fun _=>⟨_,rfl⟩,fun g e=>by cases e;exact⟨h.ll,h.rl⟩,h.nl,fun _=>⟨_,rfl⟩,fun g e=>by cases e;exact⟨h.lt,h.rt⟩,h.nt⟩
structure Ae(W:World)(N g:Nat)(up:Bool)(x:Dx)(y:Ix)(sg ct:Int):Prop where
 k:K11 W g (.bool up) (.int .i64 x.room) (.slice x.a x.ps.length x.c) (.slice y.aa y.b.ac.length y.ca) (.slice y.ai y.b.ic.length y.ci) (.slice y.ab y.b.bs.length y.cb) (.slice y.al y.b.ls.length y.cl) (.slice y.ats y.b.ts.length y.ct) (.int .i64 y.b.lot) (.int .i64 sg) (.int .i64 ct)
 r:Re W x y
 u:Ube N x y
 gl:g<N
section
variable {W W':World} {N g:Nat} {up:Bool} {x:Dx} {y:Ix} {sg ct:Int}
theorem Ae.low{B:Nat}(h:Ae W N g up x y sg ct)(k:Below B W W')(l:N≤B):Ae W' N g up x y sg ct:=⟨h.k.low k (Nat.lt_of_lt_of_le h.gl l),h.r.low (ube_mono h.u l) k,h.u,h.gl⟩
theorem Ae.step(h:Ae W N g up x y sg ct)(k:Below W.heap.size W W'):Ae W' N g up x y sg ct:=⟨h.k.step k,h.r.step k,h.u,h.gl⟩
end
def Inn(lo hi:Nat)(x:Dx)(y:Ix):Prop:=(∀g,(Value.slice x.a x.ps.length x.c).ownBlock=some g→lo≤g∧g<hi)∧(∀g,(.slice y.aa y.b.ac.length y.ca:Value).ownBlock=some g→lo≤g∧g<hi)∧(∀g,(.slice y.ai y.b.ic.length y.ci:Value).ownBlock=some g→lo≤g∧g<hi)∧(∀g,(.slice y.ab y.b.bs.length y.cb:Value).ownBlock=some g→lo≤g∧g<hi)∧(∀g,(.slice y.al y.b.ls.length y.cl:Value).ownBlock=some g→lo≤g∧g<hi)∧(∀g,(.slice y.ats y.b.ts.length y.ct:Value).ownBlock=some g→lo≤g∧g<hi)
theorem inn_of{W:World}{lo:Nat}{x:Dx}{y:Ix}(d:OwD W lo x)(b:OwV W lo y):Inn lo W.heap.size x y:=⟨fun g e=>World.ownsRow.lt d g e,fun g e=>World.ownsRow.lt b.oa g e,fun g e=>World.ownsRow.lt b.oi g e,fun g e=>World.ownsRow.lt b.ob g e,fun g e=>World.ownsRow.lt b.ol g e,fun g e=>World.ownsRow.lt b.ot g e⟩
structure Ag(W:World)(lo g:Nat)(up:Bool)(x:Dx)(y:Ix)(sg ct:Int):Prop where
 k:K11 W g (.bool up) (.int .i64 x.room) (.slice x.a x.ps.length x.c) (.slice y.aa y.b.ac.length y.ca) (.slice y.ai y.b.ic.length y.ci) (.slice y.ab y.b.bs.length y.cb) (.slice y.al y.b.ls.length y.cl) (.slice y.ats y.b.ts.length y.ct) (.int .i64 y.b.lot) (.int .i64 sg) (.int .i64 ct)
 d:OwD W lo x
 b:OwV W lo y
 i:Inn lo g x y
 gl:lo≤g
 nd:x.ps.length≤1048576
 nb:Small y.b
structure Am(W:World)(lo g:Nat)(up:Bool)(x:Dx)(y:Ix)(sg ct:Int):Prop where
 k:K11 W g (.bool up) (.int .i64 x.room) (.slice x.a x.ps.length x.c) (.slice y.aa y.b.ac.length y.ca) (.slice y.ai y.b.ic.length y.ci) (.slice y.ab y.b.bs.length y.cb) (.slice y.al y.b.ls.length y.cl) (.slice y.ats y.b.ts.length y.ct) (.int .i64 y.b.lot) (.int .i64 sg) (.int .i64 ct)
 d:OmD W lo x
 b:OwMVS (1+3*(x.ps.length:Int)) W lo y
 i:Inn lo g x y
 gl:lo≤g
 nd:x.ps.length≤1048576
 nb:Small y.b
section
variable {W W':World} {lo hi g:Nat} {up:Bool} {x:Dx} {y:Ix} {sg ct:Int}
theorem Ag.re(h:Ag W lo g up x y sg ct):Re W x y:=⟨h.d.rd h.nd,h.b.rd h.nb⟩
theorem Ag.step(h:Ag W lo g up x y sg ct)(k:Below W.heap.size W W'):Ag W' lo g up x y sg ct:=⟨h.k.step k,h.d.step k,h.b.step k,h.i,h.gl,h.nd,h.nb⟩
theorem Am.step(h:Am W lo g up x y sg ct)(k:Below W.heap.size W W'):Am W' lo g up x y sg ct:=⟨h.k.step k,h.d.step k,h.b.step k,h.i,h.gl,h.nd,h.nb⟩
theorem Ag.out{l h':Nat}(h:Ag W lo g up x y sg ct)(k:Rg l h' W W')(a:h'≤lo∨g<l):Ag W' lo g up x y sg ct:=
 ⟨h.k.out k (by have:=h.gl;omega),row_out h.d k (fun g e=>by have:=h.i.1 g e;omega),⟨row_out h.b.oa k (fun g e=>by have:=h.i.2.1 g e;omega),row_out h.b.oi k (fun g e=>by have:=h.i.2.2.1 g e;omega),row_out h.b.ob k (fun g e=>by have:=h.i.2.2.2.1 g e;omega),row_out h.b.ol k (fun g e=>by have:=h.i.2.2.2.2.1 g e;omega),row_out h.b.ot k (fun g e=>by have:=h.i.2.2.2.2.2 g e;omega)⟩,h.i,h.gl,h.nd,h.nb⟩
theorem Am.out{l h':Nat}(h:Am W lo g up x y sg ct)(k:Rg l h' W W')(a:h'≤lo∨g<l):Am W' lo g up x y sg ct:=
 ⟨h.k.out k (by have:=h.gl;omega),row_out h.d k (fun g e=>by have:=h.i.1 g e;omega),⟨row_out h.b.oa k (fun g e=>by have:=h.i.2.1 g e;omega),row_out h.b.oi k (fun g e=>by have:=h.i.2.2.1 g e;omega),row_out h.b.ob k (fun g e=>by have:=h.i.2.2.2.1 g e;omega),row_out h.b.ol k (fun g e=>by have:=h.i.2.2.2.2.1 g e;omega),row_out h.b.ot k (fun g e=>by have:=h.i.2.2.2.2.2 g e;omega)⟩,h.i,h.gl,h.nd,h.nb⟩
theorem Ag.made{W:World}{lo:Nat}{x:Dx}{y:Ix}(d:OwD W lo x)(b:OwV W lo y)(hl:lo≤W.heap.size)(nd:x.ps.length≤1048576)(nb:Small y.b)(up:Bool)(sg ct:Int)(e:TypeId):Ag (W.alloc (.cells #[.bool up,.int .i64 x.room,.slice x.a x.ps.length x.c,.slice y.aa y.b.ac.length y.ca,.slice y.ai y.b.ic.length y.ci,.slice y.ab y.b.bs.length y.cb,.slice y.al y.b.ls.length y.cl,.slice y.ats y.b.ts.length y.ct,.int .i64 y.b.lot,.int .i64 sg,.int .i64 ct] e)) lo W.heap.size up x y sg ct:=
 ⟨K11.made W (.bool up) (.int .i64 x.room) (.slice x.a x.ps.length x.c) (.slice y.aa y.b.ac.length y.ca) (.slice y.ai y.b.ic.length y.ci) (.slice y.ab y.b.bs.length y.cb) (.slice y.al y.b.ls.length y.cl) (.slice y.ats y.b.ts.length y.ct) (.int .i64 y.b.lot) (.int .i64 sg) (.int .i64 ct) e,d.step (one_more _ _),b.step (one_more _ _),inn_of d b,hl,nd,nb⟩
theorem own_out{base:Nat}{e:TypeId}{m:Nat}{v:Value}{n:Nat}{vs:List Value}{b:Nat}(h:W.ownsRow base e m v n vs)(k:W.grownBy W' (some b))(ne:∀j,v.ownBlock=some j→j≠b):W'.ownsRow base e m v n vs:=
 World.ownsRow.kept h k (by
  cases hb:v.ownBlock with
  |none=>exact .inl rfl
  |some c=>exact .inr (fun q=>by injection q with q;exact ne c hb q))
theorem Ag.put{base:Nat}{u0 u1 u2 u3 u4 u5 u6 u7 u8 u9 u10:Value}(up:Bool)(sg ct:Int)(h:Bx11 W base g u0 u1 u2 u3 u4 u5 u6 u7 u8 u9 u10)(d:OwD W lo x)(b:OwV W lo y)(i:Inn lo hi x y)(o:g<lo∨hi≤g):
  Below g W ((((((((((((W).setCell ⟨g,0,none⟩ (.bool up)).setCell ⟨g,1,none⟩ (.int .i64 x.room)).setCell ⟨g,2,none⟩ (.slice x.a x.ps.length x.c)).setCell ⟨g,3,none⟩ (.slice y.aa y.b.ac.length y.ca)).setCell ⟨g,4,none⟩ (.slice y.ai y.b.ic.length y.ci)).setCell ⟨g,5,none⟩ (.slice y.ab y.b.bs.length y.cb)).setCell ⟨g,6,none⟩ (.slice y.al y.b.ls.length y.cl)).setCell ⟨g,7,none⟩ (.slice y.ats y.b.ts.length y.ct)).setCell ⟨g,8,none⟩ (.int .i64 y.b.lot)).setCell ⟨g,9,none⟩ (.int .i64 sg)).setCell ⟨g,10,none⟩ (.int .i64 ct))∧K11 ((((((((((((W).setCell ⟨g,0,none⟩ (.bool up)).setCell ⟨g,1,none⟩ (.int .i64 x.room)).setCell ⟨g,2,none⟩ (.slice x.a x.ps.length x.c)).setCell ⟨g,3,none⟩ (.slice y.aa y.b.ac.length y.ca)).setCell ⟨g,4,none⟩ (.slice y.ai y.b.ic.length y.ci)).setCell ⟨g,5,none⟩ (.slice y.ab y.b.bs.length y.cb)).setCell ⟨g,6,none⟩ (.slice y.al y.b.ls.length y.cl)).setCell ⟨g,7,none⟩ (.slice y.ats y.b.ts.length y.ct)).setCell ⟨g,8,none⟩ (.int .i64 y.b.lot)).setCell ⟨g,9,none⟩ (.int .i64 sg)).setCell ⟨g,10,none⟩ (.int .i64 ct)) g (.bool up) (.int .i64 x.room) (.slice x.a x.ps.length x.c) (.slice y.aa y.b.ac.length y.ca) (.slice y.ai y.b.ic.length y.ci) (.slice y.ab y.b.bs.length y.cb) (.slice y.al y.b.ls.length y.cl) (.slice y.ats y.b.ts.length y.ct) (.int .i64 y.b.lot) (.int .i64 sg) (.int .i64 ct)∧OwD ((((((((((((W).setCell ⟨g,0,none⟩ (.bool up)).setCell ⟨g,1,none⟩ (.int .i64 x.room)).setCell ⟨g,2,none⟩ (.slice x.a x.ps.length x.c)).setCell ⟨g,3,none⟩ (.slice y.aa y.b.ac.length y.ca)).setCell ⟨g,4,none⟩ (.slice y.ai y.b.ic.length y.ci)).setCell ⟨g,5,none⟩ (.slice y.ab y.b.bs.length y.cb)).setCell ⟨g,6,none⟩ (.slice y.al y.b.ls.length y.cl)).setCell ⟨g,7,none⟩ (.slice y.ats y.b.ts.length y.ct)).setCell ⟨g,8,none⟩ (.int .i64 y.b.lot)).setCell ⟨g,9,none⟩ (.int .i64 sg)).setCell ⟨g,10,none⟩ (.int .i64 ct)) lo x∧OwV ((((((((((((W).setCell ⟨g,0,none⟩ (.bool up)).setCell ⟨g,1,none⟩ (.int .i64 x.room)).setCell ⟨g,2,none⟩ (.slice x.a x.ps.length x.c)).setCell ⟨g,3,none⟩ (.slice y.aa y.b.ac.length y.ca)).setCell ⟨g,4,none⟩ (.slice y.ai y.b.ic.length y.ci)).setCell ⟨g,5,none⟩ (.slice y.ab y.b.bs.length y.cb)).setCell ⟨g,6,none⟩ (.slice y.al y.b.ls.length y.cl)).setCell ⟨g,7,none⟩ (.slice y.ats y.b.ts.length y.ct)).setCell ⟨g,8,none⟩ (.int .i64 y.b.lot)).setCell ⟨g,9,none⟩ (.int .i64 sg)).setCell ⟨g,10,none⟩ (.int .i64 ct)) lo y:=by
 have t:=h.all (.bool up) (.int .i64 x.room) (.slice x.a x.ps.length x.c) (.slice y.aa y.b.ac.length y.ca) (.slice y.ai y.b.ic.length y.ci) (.slice y.ab y.b.bs.length y.cb) (.slice y.al y.b.ls.length y.cl) (.slice y.ats y.b.ts.length y.ct) (.int .i64 y.b.lot) (.int .i64 sg) (.int .i64 ct)
 have lt:=h.lt
 generalize (((((((((((W).setCell ⟨g,0,none⟩ (.bool up)).setCell ⟨g,1,none⟩ (.int .i64 x.room)).setCell ⟨g,2,none⟩ (.slice x.a x.ps.length x.c)).setCell ⟨g,3,none⟩ (.slice y.aa y.b.ac.length y.ca)).setCell ⟨g,4,none⟩ (.slice y.ai y.b.ic.length y.ci)).setCell ⟨g,5,none⟩ (.slice y.ab y.b.bs.length y.cb)).setCell ⟨g,6,none⟩ (.slice y.al y.b.ls.length y.cl)).setCell ⟨g,7,none⟩ (.slice y.ats y.b.ts.length y.ct)).setCell ⟨g,8,none⟩ (.int .i64 y.b.lot)).setCell ⟨g,9,none⟩ (.int .i64 sg)).setCell ⟨g,10,none⟩ (.int .i64 ct)=U at *
 exact⟨⟨t.2.os,t.2.tape,t.2.output,t.2.size,fun j hj=>t.2.block j (by omega) (by simp;omega)⟩,K11.box t.1,own_out d t.2 (fun j e=>by have:=i.1 j e;omega),own_out b.oa t.2 (fun j e=>by have:=i.2.1 j e;omega),own_out b.oi t.2 (fun j e=>by have:=i.2.2.1 j e;omega),own_out b.ob t.2 (fun j e=>by have:=i.2.2.2.1 j e;omega),own_out b.ol t.2 (fun j e=>by have:=i.2.2.2.2.1 j e;omega),own_out b.ot t.2 (fun j e=>by have:=i.2.2.2.2.2 j e;omega)⟩
end
end EngB17
namespace SEngCp17
open Fil14 DkH14 SDk14 EBx17 EFin17 VB13
open BMem (Bx Rd Ow)
open BHelp (Ix)
open IBalsFit (one_more)
theorem ow_ix{w:World}{base:Nat}{z:Bx}(h:Ow w base z):OwV w base (ixB z):=⟨h.oa,h.oi,h.ob,h.ol,h.ot⟩
theorem sCopyE(w:World)(up:Bool)(x:Dx)(z:Bx)(sg ct:Int)(hr:RdD w x)(hy:Rd w z):
  Calls Tryz.prog 44 #[.agg #[.bool up,.int .i64 x.room,.slice x.a x.ps.length x.c,.slice (some ⟨z.ga,0,none⟩) z.b.ac.length z.ca,.slice (some ⟨z.gi,0,none⟩) z.b.ic.length z.ci,.slice (some ⟨z.gb,0,none⟩) z.b.bs.length z.cb,.slice (some ⟨z.gl,0,none⟩) z.b.ls.length z.cl,.slice (some ⟨z.gt,0,none⟩) z.b.ts.length z.ct,.int .i64 z.b.lot,.int .i64 sg,.int .i64 ct]] w (ToldE1 (up,(x.room,x.ps),z.b,sg,ct) w):=by
 have bA:=one_more (w.alloc (.cells #[.bool up,.int .i64 x.room,.slice x.a x.ps.length x.c,.slice (some ⟨z.ga,0,none⟩) z.b.ac.length z.ca,.slice (some ⟨z.gi,0,none⟩) z.b.ic.length z.ci,.slice (some ⟨z.gb,0,none⟩) z.b.bs.length z.cb,.slice (some ⟨z.gl,0,none⟩) z.b.ls.length z.cl,.slice (some ⟨z.gt,0,none⟩) z.b.ts.length z.ct,.int .i64 z.b.lot,.int .i64 sg,.int .i64 ct] 47)) (.cells #[.bool false,.int .i64 0,.slice none 0 0,.slice none 0 0,.slice none 0 0,.slice none 0 0,.slice none 0 0,.slice none 0 0,.int .i64 0,.int .i64 0,.int .i64 0] 47)
 have GW:=zh ((Eg.made hr hy (Below.refl _ _) up sg ct).step bA)
 have KW:=zh (Bx11.made (w:=w.alloc (.cells #[.bool up,.int .i64 x.room,.slice x.a x.ps.length x.c,.slice (some ⟨z.ga,0,none⟩) z.b.ac.length z.ca,.slice (some ⟨z.gi,0,none⟩) z.b.ic.length z.ci,.slice (some ⟨z.gb,0,none⟩) z.b.bs.length z.cb,.slice (some ⟨z.gl,0,none⟩) z.b.ls.length z.cl,.slice (some ⟨z.gt,0,none⟩) z.b.ts.length z.ct,.int .i64 z.b.lot,.int .i64 sg,.int .i64 ct] 47)) (base:=w.heap.size) (g:=w.heap.size+1) (.bool false) (.int .i64 0) (.slice none 0 0) (.slice none 0 0) (.slice none 0 0) (.slice none 0 0) (.slice none 0 0) (.slice none 0 0) (.int .i64 0) (.int .i64 0) (.int .i64 0) (by simp) (by simp))
 have CD:=zh (fun u (h:RdD u x)=>SCopy14.sCopy u x h)
 have CB:=zh (fun u (h:Rd u z)=>SCopy.sCopy u z h)
 clear hr hy bA
 go_enter Tryz.func44,Tryz.ntmps44
 go_wp2_with fail
 generalize (w.alloc (.cells #[.bool up,.int .i64 x.room,.slice x.a x.ps.length x.c,.slice (some ⟨z.ga,0,none⟩) z.b.ac.length z.ca,.slice (some ⟨z.gi,0,none⟩) z.b.ic.length z.ci,.slice (some ⟨z.gb,0,none⟩) z.b.bs.length z.cb,.slice (some ⟨z.gl,0,none⟩) z.b.ls.length z.cl,.slice (some ⟨z.gt,0,none⟩) z.b.ts.length z.ct,.int .i64 z.b.lot,.int .i64 sg,.int .i64 ct] 47)).alloc (.cells #[.bool false,.int .i64 0,.slice none 0 0,.slice none 0 0,.slice none 0 0,.slice none 0 0,.slice none 0 0,.slice none 0 0,.int .i64 0,.int .i64 0,.int .i64 0] 47)=W at *
 have wl:=(zu KW).lt.2
 refine wp_region_held_drew (S:=(fun w'=>w'.cell? ⟨w.heap.size,0,none⟩=some (.bool up)∧w'.cell? ⟨w.heap.size,1,none⟩=some (.int .i64 x.room)∧w'.cell? ⟨w.heap.size,2,none⟩=some (.slice x.a x.ps.length x.c)∧w'.cell? ⟨w.heap.size,3,none⟩=some (.slice (some ⟨z.ga,0,none⟩) z.b.ac.length z.ca)∧w'.cell? ⟨w.heap.size,4,none⟩=some (.slice (some ⟨z.gi,0,none⟩) z.b.ic.length z.ci)∧w'.cell? ⟨w.heap.size,5,none⟩=some (.slice (some ⟨z.gb,0,none⟩) z.b.bs.length z.cb)∧w'.cell? ⟨w.heap.size,6,none⟩=some (.slice (some ⟨z.gl,0,none⟩) z.b.ls.length z.cl)∧w'.cell? ⟨w.heap.size,7,none⟩=some (.slice (some ⟨z.gt,0,none⟩) z.b.ts.length z.ct)∧w'.cell? ⟨w.heap.size,8,none⟩=some (.int .i64 z.b.lot)∧w'.cell? ⟨w.heap.size,9,none⟩=some (.int .i64 sg)∧w'.cell? ⟨w.heap.size,10,none⟩=some (.int .i64 ct))) (by kernel_rfl) ⟨(zu GW).k.c0,(zu GW).k.c1,(zu GW).k.c2,(zu GW).k.c3,(zu GW).k.c4,(zu GW).k.c5,(zu GW).k.c6,(zu GW).k.c7,(zu GW).k.c8,(zu GW).k.c9,(zu GW).k.c10⟩ (fun hHeld=>?_)
 refine zT 0 (.pointer (some ⟨w.heap.size,0,none⟩)) rfl hHeld ?_
 refine zT 1 (.bool up) rfl hHeld ?_
 refine zT 2 (.pointer (some ⟨w.heap.size,1,none⟩)) rfl hHeld ?_
 refine zT 3 (.agg #[.int .i64 x.room,.slice x.a x.ps.length x.c]) rfl hHeld ?_
 refine zT 5 (.pointer (some ⟨w.heap.size,3,none⟩)) rfl hHeld ?_
 refine zT 6 (.agg #[.slice (some ⟨z.ga,0,none⟩) z.b.ac.length z.ca,.slice (some ⟨z.gi,0,none⟩) z.b.ic.length z.ci,.slice (some ⟨z.gb,0,none⟩) z.b.bs.length z.cb,.slice (some ⟨z.gl,0,none⟩) z.b.ls.length z.cl,.slice (some ⟨z.gt,0,none⟩) z.b.ts.length z.ct,.int .i64 z.b.lot]) rfl hHeld ?_
 refine zT 8 (.pointer (some ⟨w.heap.size,9,none⟩)) rfl hHeld ?_
 refine zT 9 (.int .i64 sg) rfl hHeld ?_
 refine zT 10 (.pointer (some ⟨w.heap.size,10,none⟩)) rfl hHeld ?_
 refine zT 11 (.int .i64 ct) rfl hHeld ?_
 try simp only[Act.put,zA,zB,zC]
 refine zR 4 rfl (fun K hK=>?_)
 go_simp
 go_wp2_with fail
 refine(zu CD _ (show RdD W.drew x from(zu GW).r.below (Below.refl _ _).drew)).mono ?_
 rintro e Wd ⟨x1,xr,xp,rfl,ox,b6⟩
 have b7:Below W.heap.size W Wd:=⟨b6.os,b6.tape,b6.output,b6.size,b6.block⟩
 have GWd:=zh ((zu GW).step b7)
 have KWd:=zh ((zu KW).below b7 (zu KW).lt.2)
 have XE:=zh (And.intro xr xp)
 have OX:=zh (show OwD Wd W.heap.size x1 from row_base2 ox (Nat.le_refl _))
 have sW:=b7.size
 clear b6 b7 ox xr xp
 go_wp2_with fail
 refine hK.out _ _ ⟨(zu GWd).k.c0,(zu GWd).k.c1,(zu GWd).k.c2,(zu GWd).k.c3,(zu GWd).k.c4,(zu GWd).k.c5,(zu GWd).k.c6,(zu GWd).k.c7,(zu GWd).k.c8,(zu GWd).k.c9,(zu GWd).k.c10⟩ (fun hHeld=>?_)
 clear hK K
 try simp only[Act.put,zA,zB,zC]
 refine zR 7 rfl (fun K hK=>?_)
 go_simp
 go_wp2_with fail
 refine(zu CB _ (show Rd Wd z from(zu GWd).rb)).mono ?_
 rintro e Wdb ⟨z1,zb,rfl,oz,b6⟩
 have b7:Below Wd.heap.size Wd Wdb:=⟨b6.os,b6.tape,b6.output,b6.size,b6.block⟩
 have GWdb:=zh ((zu GWd).step b7)
 have KWdb:=zh ((zu KWd).below b7 (zu KWd).lt.2)
 have ZE:=zh zb
 have OZ:=zh (show OwV Wdb W.heap.size (ixB z1) from ownV_base (ow_ix oz) (by have:=sW;omega))
 replace OX:=zh ((zu OX).step b7)
 clear b6 b7 oz zb
 go_wp2_with fail
 refine hK.out _ _ ⟨(zu GWdb).k.c0,(zu GWdb).k.c1,(zu GWdb).k.c2,(zu GWdb).k.c3,(zu GWdb).k.c4,(zu GWdb).k.c5,(zu GWdb).k.c6,(zu GWdb).k.c7,(zu GWdb).k.c8,(zu GWdb).k.c9,(zu GWdb).k.c10⟩ (fun hHeld=>?_)
 clear hK K
 refine zT 12 (.agg #[.bool up,.int .i64 x1.room,.slice x1.a x1.ps.length x1.c,.slice (some ⟨z1.ga,0,none⟩) z1.b.ac.length z1.ca,.slice (some ⟨z1.gi,0,none⟩) z1.b.ic.length z1.ci,.slice (some ⟨z1.gb,0,none⟩) z1.b.bs.length z1.cb,.slice (some ⟨z1.gl,0,none⟩) z1.b.ls.length z1.cl,.slice (some ⟨z1.gt,0,none⟩) z1.b.ts.length z1.ct,.int .i64 z1.b.lot,.int .i64 sg,.int .i64 ct]) rfl hHeld ?_
 try simp only[Act.put,zA,zB,zC]
 have EN:=zh (show Below w.heap.size w ((((((((((((Wdb).setCell ⟨w.heap.size+1,0,none⟩ (.bool up)).setCell ⟨w.heap.size+1,1,none⟩ (.int .i64 x1.room)).setCell ⟨w.heap.size+1,2,none⟩ (.slice x1.a x1.ps.length x1.c)).setCell ⟨w.heap.size+1,3,none⟩ (.slice (some ⟨z1.ga,0,none⟩) z1.b.ac.length z1.ca)).setCell ⟨w.heap.size+1,4,none⟩ (.slice (some ⟨z1.gi,0,none⟩) z1.b.ic.length z1.ci)).setCell ⟨w.heap.size+1,5,none⟩ (.slice (some ⟨z1.gb,0,none⟩) z1.b.bs.length z1.cb)).setCell ⟨w.heap.size+1,6,none⟩ (.slice (some ⟨z1.gl,0,none⟩) z1.b.ls.length z1.cl)).setCell ⟨w.heap.size+1,7,none⟩ (.slice (some ⟨z1.gt,0,none⟩) z1.b.ts.length z1.ct)).setCell ⟨w.heap.size+1,8,none⟩ (.int .i64 z1.b.lot)).setCell ⟨w.heap.size+1,9,none⟩ (.int .i64 sg)).setCell ⟨w.heap.size+1,10,none⟩ (.int .i64 ct))∧Bx11 ((((((((((((Wdb).setCell ⟨w.heap.size+1,0,none⟩ (.bool up)).setCell ⟨w.heap.size+1,1,none⟩ (.int .i64 x1.room)).setCell ⟨w.heap.size+1,2,none⟩ (.slice x1.a x1.ps.length x1.c)).setCell ⟨w.heap.size+1,3,none⟩ (.slice (some ⟨z1.ga,0,none⟩) z1.b.ac.length z1.ca)).setCell ⟨w.heap.size+1,4,none⟩ (.slice (some ⟨z1.gi,0,none⟩) z1.b.ic.length z1.ci)).setCell ⟨w.heap.size+1,5,none⟩ (.slice (some ⟨z1.gb,0,none⟩) z1.b.bs.length z1.cb)).setCell ⟨w.heap.size+1,6,none⟩ (.slice (some ⟨z1.gl,0,none⟩) z1.b.ls.length z1.cl)).setCell ⟨w.heap.size+1,7,none⟩ (.slice (some ⟨z1.gt,0,none⟩) z1.b.ts.length z1.ct)).setCell ⟨w.heap.size+1,8,none⟩ (.int .i64 z1.b.lot)).setCell ⟨w.heap.size+1,9,none⟩ (.int .i64 sg)).setCell ⟨w.heap.size+1,10,none⟩ (.int .i64 ct)) w.heap.size (w.heap.size+1) (.bool up) (.int .i64 x1.room) (.slice x1.a x1.ps.length x1.c) (.slice (some ⟨z1.ga,0,none⟩) z1.b.ac.length z1.ca) (.slice (some ⟨z1.gi,0,none⟩) z1.b.ic.length z1.ci) (.slice (some ⟨z1.gb,0,none⟩) z1.b.bs.length z1.cb) (.slice (some ⟨z1.gl,0,none⟩) z1.b.ls.length z1.cl) (.slice (some ⟨z1.gt,0,none⟩) z1.b.ts.length z1.ct) (.int .i64 z1.b.lot) (.int .i64 sg) (.int .i64 ct)∧OwD ((((((((((((Wdb).setCell ⟨w.heap.size+1,0,none⟩ (.bool up)).setCell ⟨w.heap.size+1,1,none⟩ (.int .i64 x1.room)).setCell ⟨w.heap.size+1,2,none⟩ (.slice x1.a x1.ps.length x1.c)).setCell ⟨w.heap.size+1,3,none⟩ (.slice (some ⟨z1.ga,0,none⟩) z1.b.ac.length z1.ca)).setCell ⟨w.heap.size+1,4,none⟩ (.slice (some ⟨z1.gi,0,none⟩) z1.b.ic.length z1.ci)).setCell ⟨w.heap.size+1,5,none⟩ (.slice (some ⟨z1.gb,0,none⟩) z1.b.bs.length z1.cb)).setCell ⟨w.heap.size+1,6,none⟩ (.slice (some ⟨z1.gl,0,none⟩) z1.b.ls.length z1.cl)).setCell ⟨w.heap.size+1,7,none⟩ (.slice (some ⟨z1.gt,0,none⟩) z1.b.ts.length z1.ct)).setCell ⟨w.heap.size+1,8,none⟩ (.int .i64 z1.b.lot)).setCell ⟨w.heap.size+1,9,none⟩ (.int .i64 sg)).setCell ⟨w.heap.size+1,10,none⟩ (.int .i64 ct)) w.heap.size x1∧OwV ((((((((((((Wdb).setCell ⟨w.heap.size+1,0,none⟩ (.bool up)).setCell ⟨w.heap.size+1,1,none⟩ (.int .i64 x1.room)).setCell ⟨w.heap.size+1,2,none⟩ (.slice x1.a x1.ps.length x1.c)).setCell ⟨w.heap.size+1,3,none⟩ (.slice (some ⟨z1.ga,0,none⟩) z1.b.ac.length z1.ca)).setCell ⟨w.heap.size+1,4,none⟩ (.slice (some ⟨z1.gi,0,none⟩) z1.b.ic.length z1.ci)).setCell ⟨w.heap.size+1,5,none⟩ (.slice (some ⟨z1.gb,0,none⟩) z1.b.bs.length z1.cb)).setCell ⟨w.heap.size+1,6,none⟩ (.slice (some ⟨z1.gl,0,none⟩) z1.b.ls.length z1.cl)).setCell ⟨w.heap.size+1,7,none⟩ (.slice (some ⟨z1.gt,0,none⟩) z1.b.ts.length z1.ct)).setCell ⟨w.heap.size+1,8,none⟩ (.int .i64 z1.b.lot)).setCell ⟨w.heap.size+1,9,none⟩ (.int .i64 sg)).setCell ⟨w.heap.size+1,10,none⟩ (.int .i64 ct)) w.heap.size (ixB z1)∧Wdb.grownBy ((((((((((((Wdb).setCell ⟨w.heap.size+1,0,none⟩ (.bool up)).setCell ⟨w.heap.size+1,1,none⟩ (.int .i64 x1.room)).setCell ⟨w.heap.size+1,2,none⟩ (.slice x1.a x1.ps.length x1.c)).setCell ⟨w.heap.size+1,3,none⟩ (.slice (some ⟨z1.ga,0,none⟩) z1.b.ac.length z1.ca)).setCell ⟨w.heap.size+1,4,none⟩ (.slice (some ⟨z1.gi,0,none⟩) z1.b.ic.length z1.ci)).setCell ⟨w.heap.size+1,5,none⟩ (.slice (some ⟨z1.gb,0,none⟩) z1.b.bs.length z1.cb)).setCell ⟨w.heap.size+1,6,none⟩ (.slice (some ⟨z1.gl,0,none⟩) z1.b.ls.length z1.cl)).setCell ⟨w.heap.size+1,7,none⟩ (.slice (some ⟨z1.gt,0,none⟩) z1.b.ts.length z1.ct)).setCell ⟨w.heap.size+1,8,none⟩ (.int .i64 z1.b.lot)).setCell ⟨w.heap.size+1,9,none⟩ (.int .i64 sg)).setCell ⟨w.heap.size+1,10,none⟩ (.int .i64 ct)) (some (w.heap.size+1)) from ended17 (w:=w) (x:=x1) (y:=ixB z1) up sg ct (zu GWdb).b (zu KWdb) (zu OX) (zu OZ) wl)
 obtain⟨f0,f1,f2,f3,f4,f5,f6,f7,f8,f9,f10⟩:=(zu KWdb).fs
 obtain⟨b0,b1,b2,b3,b4,b5,b6,b7,b8,b9,b10⟩:=(zu KWdb).cs
 have kc:∀o,((((((((((((Wdb).setCell ⟨w.heap.size+1,0,none⟩ (.bool up)).setCell ⟨w.heap.size+1,1,none⟩ (.int .i64 x1.room)).setCell ⟨w.heap.size+1,2,none⟩ (.slice x1.a x1.ps.length x1.c)).setCell ⟨w.heap.size+1,3,none⟩ (.slice (some ⟨z1.ga,0,none⟩) z1.b.ac.length z1.ca)).setCell ⟨w.heap.size+1,4,none⟩ (.slice (some ⟨z1.gi,0,none⟩) z1.b.ic.length z1.ci)).setCell ⟨w.heap.size+1,5,none⟩ (.slice (some ⟨z1.gb,0,none⟩) z1.b.bs.length z1.cb)).setCell ⟨w.heap.size+1,6,none⟩ (.slice (some ⟨z1.gl,0,none⟩) z1.b.ls.length z1.cl)).setCell ⟨w.heap.size+1,7,none⟩ (.slice (some ⟨z1.gt,0,none⟩) z1.b.ts.length z1.ct)).setCell ⟨w.heap.size+1,8,none⟩ (.int .i64 z1.b.lot)).setCell ⟨w.heap.size+1,9,none⟩ (.int .i64 sg)).setCell ⟨w.heap.size+1,10,none⟩ (.int .i64 ct)).cell? ⟨w.heap.size,o,none⟩=Wdb.cell? ⟨w.heap.size,o,none⟩:=fun o=>App14.kcell (zu EN).2.2.2.2 o (by have:=(zu KWdb).lt.2;omega) (by omega)
 refine zR 13 rfl (fun K hK=>?_)
 go_simp
 refine hK.out _ _ ⟨(kc 0).trans ((zu GWdb).k.c0),(kc 1).trans ((zu GWdb).k.c1),(kc 2).trans ((zu GWdb).k.c2),(kc 3).trans ((zu GWdb).k.c3),(kc 4).trans ((zu GWdb).k.c4),(kc 5).trans ((zu GWdb).k.c5),(kc 6).trans ((zu GWdb).k.c6),(kc 7).trans ((zu GWdb).k.c7),(kc 8).trans ((zu GWdb).k.c8),(kc 9).trans ((zu GWdb).k.c9),(kc 10).trans ((zu GWdb).k.c10)⟩ (fun hHeld=>?_)
 clear hK K
 try simp only[Act.put,zA,zB,zC]
 refine wpAnyH_done (by kernel_rfl) ?_ _
 clear f0 b0 f1 b1 f2 b2 f3 b3 f4 b4 f5 b5 f6 b6 f7 b7 f8 b8 f9 b9 f10 b10
 generalize (((((((((((Wdb).setCell ⟨w.heap.size+1,0,none⟩ (.bool up)).setCell ⟨w.heap.size+1,1,none⟩ (.int .i64 x1.room)).setCell ⟨w.heap.size+1,2,none⟩ (.slice x1.a x1.ps.length x1.c)).setCell ⟨w.heap.size+1,3,none⟩ (.slice (some ⟨z1.ga,0,none⟩) z1.b.ac.length z1.ca)).setCell ⟨w.heap.size+1,4,none⟩ (.slice (some ⟨z1.gi,0,none⟩) z1.b.ic.length z1.ci)).setCell ⟨w.heap.size+1,5,none⟩ (.slice (some ⟨z1.gb,0,none⟩) z1.b.bs.length z1.cb)).setCell ⟨w.heap.size+1,6,none⟩ (.slice (some ⟨z1.gl,0,none⟩) z1.b.ls.length z1.cl)).setCell ⟨w.heap.size+1,7,none⟩ (.slice (some ⟨z1.gt,0,none⟩) z1.b.ts.length z1.ct)).setCell ⟨w.heap.size+1,8,none⟩ (.int .i64 z1.b.lot)).setCell ⟨w.heap.size+1,9,none⟩ (.int .i64 sg)).setCell ⟨w.heap.size+1,10,none⟩ (.int .i64 ct)=U at *
 have r0:=(zu EN).2.1
 go_wp2
 obtain⟨q0,q1,q2,q3,q4,q5,q6,q7,q8,q9,q10⟩:=r0.cs
 refine bodyPost_ret (v:= .agg #[.bool up,.int .i64 x1.room,.slice x1.a x1.ps.length x1.c,.slice (some ⟨z1.ga,0,none⟩) z1.b.ac.length z1.ca,.slice (some ⟨z1.gi,0,none⟩) z1.b.ic.length z1.ci,.slice (some ⟨z1.gb,0,none⟩) z1.b.bs.length z1.cb,.slice (some ⟨z1.gl,0,none⟩) z1.b.ls.length z1.cl,.slice (some ⟨z1.gt,0,none⟩) z1.b.ts.length z1.ct,.int .i64 z1.b.lot,.int .i64 sg,.int .i64 ct]) (by simp[results,Tryz.results44,go_sem,q0,q1,q2,q3,q4,q5,q6,q7,q8,q9,q10]) rfl ?_
 exact⟨x1,ixB z1,by rw[(zu XE).1,(zu XE).2],zu ZE,rfl,(zu EN).2.2.1,(zu EN).2.2.2.1,(zu EN).1⟩
end SEngCp17
namespace EngH17
open Fil14 OpensF14 DiskH14 DkH14 SDk14 Law14 BMemV13 VB13 EBx17 EFin17 EBk17 EngB17 SaveH16
open BMem (Bx Rd Ow Small)
open Bks (Bk)
open BHelp (Ix RdI Up ow_up toB)
open BkEq (Fits)
open Bx16 (grow_grow grow_low)
open SEngCp17 (ow_ix)
theorem rd_ix{W:World}{lo:Nat}{z:Bx}(h:OwV W lo (ixB z))(s:Small z.b):Rd W z:=(show Ow W lo z from⟨h.oa,h.oi,h.ob,h.ol,h.ot⟩).rd s
theorem szE(w:World)(up:Bool)(n:Int)(a:Option Addr)(len cap:Nat)(ps:List TF)(y:Ix)(sg ct:Int)(hl:ps.length=len)(hg:len≤9223372036854775807)(hr:ReadsF w a ps)(hf:FitF ps)(hy:Fits y.b):
  Calls Tryz.prog 8 #[.agg #[.bool up,.int .i64 n,.slice a len cap,.slice y.aa y.b.ac.length y.ca,.slice y.ai y.b.ic.length y.ci,.slice y.ab y.b.bs.length y.cb,.slice y.al y.b.ls.length y.cl,.slice y.ats y.b.ts.length y.ct,.int .i64 y.b.lot,.int .i64 sg,.int .i64 ct],.int .i64 1048576] w fun e w'=>∃r,e= .returned (.int .i64 r)∧(r= -1∨(0≤r∧len≤1048576∧sumZ ps≤1048576∧Small y.b))∧Below w.heap.size w w':=by
 have I0:=zh (K11.made w (.bool up) (.int .i64 n) (.slice a len cap) (.slice y.aa y.b.ac.length y.ca) (.slice y.ai y.b.ic.length y.ci) (.slice y.ab y.b.bs.length y.cb) (.slice y.al y.b.ls.length y.cl) (.slice y.ats y.b.ts.length y.ct) (.int .i64 y.b.lot) (.int .i64 sg) (.int .i64 ct) 33)
 have B0:=zh (one_more w (.cells #[.bool up,.int .i64 n,.slice a len cap,.slice y.aa y.b.ac.length y.ca,.slice y.ai y.b.ic.length y.ci,.slice y.ab y.b.bs.length y.cb,.slice y.al y.b.ls.length y.cl,.slice y.ats y.b.ts.length y.ct,.int .i64 y.b.lot,.int .i64 sg,.int .i64 ct] 33))
 have SD:=zh (szD _ n a len cap ps hl hg (hr.below (zu B0)) hf)
 have SB:=zh (fun u left h0 h1=>szBG u y left h0 h1 hy)
 clear hr hf hy
 have c1:=(zu I0).c1
 have c2:=(zu I0).c2
 go_enter Tryz.func8,Tryz.ntmps8
 go_wp2_with fail
 refine(zu SD).mono ?_
 rintro e u ⟨r,rfl,hr,bb⟩
 have I1:=zh ((zu I0).step bb)
 have B1:=zh ((zu B0).trans (bb.mono (zu B0).size))
 have HR:=zh hr
 clear bb SD I0 B0 c1 c2
 rcases hr with rfl|⟨r0,h20,hs⟩
 ·go_wp2
  go_ret
  exact⟨-1,rfl,.inl rfl,zu B1⟩
 have rn:¬r<0:=by omega
 have R:=zh r0
 have H20:=zh h20
 have HS:=zh hs
 clear r0 h20 hs
 have d3:=(zu I1).c3
 have d4:=(zu I1).c4
 have d5:=(zu I1).c5
 have d6:=(zu I1).c6
 have d7:=(zu I1).c7
 have d8:=(zu I1).c8
 go_wp2_with fail
 refine(zu SB u r (zu R).1 (zu R).2).mono ?_
 rintro e v ⟨q,rfl,hq,bb⟩
 have B2:=zh ((zu B1).trans (bb.mono (zu B1).size))
 have HQ:=zh hq
 clear bb d3 d4 d5 d6 d7 d8
 rcases hq with rfl|⟨q0,_⟩
 ·go_wp2
  go_ret
  exact⟨-1,rfl,.inl rfl,zu B2⟩
 have qn:¬q<0:=by omega
 go_wp2
 go_ret
 rcases zu HQ with h|h
 ·omega
 exact⟨q,rfl,.inr ⟨h.1,zu H20,zu HS,h.2⟩,zu B2⟩
theorem fin11{w u W:World}{x:Dx}{z:Bx}{a0 a1 a2 a3 a4 a5 a6 a7 a8 a9 a10 b3 b4 b5 b6 b7 b8 b9 b10:Value}(up:Bool)(sg ct:Int)(B:Below w.heap.size w u)(K1:Bx11 u w.heap.size (w.heap.size+1) a0 a1 a2 a3 a4 a5 a6 a7 a8 a9 a10)(K2:Bx11 u w.heap.size (w.heap.size+1+1) (.bool up) (.int .i64 x.room) (.slice x.a x.ps.length x.c) b3 b4 b5 b6 b7 b8 b9 b10)(D:OwD u W.heap.size x)(O:Ow u W.heap.size z)(us:W.heap.size≤u.heap.size)(s3:W.heap.size=w.heap.size+3):
  OwD ((((((((((((((((((((u).setCell ⟨w.heap.size+1+1,3,none⟩ (.slice (some ⟨z.ga,0,none⟩) z.b.ac.length z.ca)).setCell ⟨w.heap.size+1+1,4,none⟩ (.slice (some ⟨z.gi,0,none⟩) z.b.ic.length z.ci)).setCell ⟨w.heap.size+1+1,5,none⟩ (.slice (some ⟨z.gb,0,none⟩) z.b.bs.length z.cb)).setCell ⟨w.heap.size+1+1,6,none⟩ (.slice (some ⟨z.gl,0,none⟩) z.b.ls.length z.cl)).setCell ⟨w.heap.size+1+1,7,none⟩ (.slice (some ⟨z.gt,0,none⟩) z.b.ts.length z.ct)).setCell ⟨w.heap.size+1+1,8,none⟩ (.int .i64 z.b.lot)).setCell ⟨w.heap.size+1+1,9,none⟩ (.int .i64 sg)).setCell ⟨w.heap.size+1+1,10,none⟩ (.int .i64 ct)).setCell ⟨w.heap.size+1,0,none⟩ (.bool up)).setCell ⟨w.heap.size+1,1,none⟩ (.int .i64 x.room)).setCell ⟨w.heap.size+1,2,none⟩ (.slice x.a x.ps.length x.c)).setCell ⟨w.heap.size+1,3,none⟩ (.slice (some ⟨z.ga,0,none⟩) z.b.ac.length z.ca)).setCell ⟨w.heap.size+1,4,none⟩ (.slice (some ⟨z.gi,0,none⟩) z.b.ic.length z.ci)).setCell ⟨w.heap.size+1,5,none⟩ (.slice (some ⟨z.gb,0,none⟩) z.b.bs.length z.cb)).setCell ⟨w.heap.size+1,6,none⟩ (.slice (some ⟨z.gl,0,none⟩) z.b.ls.length z.cl)).setCell ⟨w.heap.size+1,7,none⟩ (.slice (some ⟨z.gt,0,none⟩) z.b.ts.length z.ct)).setCell ⟨w.heap.size+1,8,none⟩ (.int .i64 z.b.lot)).setCell ⟨w.heap.size+1,9,none⟩ (.int .i64 sg)).setCell ⟨w.heap.size+1,10,none⟩ (.int .i64 ct)) w.heap.size x∧Ow ((((((((((((((((((((u).setCell ⟨w.heap.size+1+1,3,none⟩ (.slice (some ⟨z.ga,0,none⟩) z.b.ac.length z.ca)).setCell ⟨w.heap.size+1+1,4,none⟩ (.slice (some ⟨z.gi,0,none⟩) z.b.ic.length z.ci)).setCell ⟨w.heap.size+1+1,5,none⟩ (.slice (some ⟨z.gb,0,none⟩) z.b.bs.length z.cb)).setCell ⟨w.heap.size+1+1,6,none⟩ (.slice (some ⟨z.gl,0,none⟩) z.b.ls.length z.cl)).setCell ⟨w.heap.size+1+1,7,none⟩ (.slice (some ⟨z.gt,0,none⟩) z.b.ts.length z.ct)).setCell ⟨w.heap.size+1+1,8,none⟩ (.int .i64 z.b.lot)).setCell ⟨w.heap.size+1+1,9,none⟩ (.int .i64 sg)).setCell ⟨w.heap.size+1+1,10,none⟩ (.int .i64 ct)).setCell ⟨w.heap.size+1,0,none⟩ (.bool up)).setCell ⟨w.heap.size+1,1,none⟩ (.int .i64 x.room)).setCell ⟨w.heap.size+1,2,none⟩ (.slice x.a x.ps.length x.c)).setCell ⟨w.heap.size+1,3,none⟩ (.slice (some ⟨z.ga,0,none⟩) z.b.ac.length z.ca)).setCell ⟨w.heap.size+1,4,none⟩ (.slice (some ⟨z.gi,0,none⟩) z.b.ic.length z.ci)).setCell ⟨w.heap.size+1,5,none⟩ (.slice (some ⟨z.gb,0,none⟩) z.b.bs.length z.cb)).setCell ⟨w.heap.size+1,6,none⟩ (.slice (some ⟨z.gl,0,none⟩) z.b.ls.length z.cl)).setCell ⟨w.heap.size+1,7,none⟩ (.slice (some ⟨z.gt,0,none⟩) z.b.ts.length z.ct)).setCell ⟨w.heap.size+1,8,none⟩ (.int .i64 z.b.lot)).setCell ⟨w.heap.size+1,9,none⟩ (.int .i64 sg)).setCell ⟨w.heap.size+1,10,none⟩ (.int .i64 ct)) w.heap.size z∧Below w.heap.size w ((((((((((((((((((((u).setCell ⟨w.heap.size+1+1,3,none⟩ (.slice (some ⟨z.ga,0,none⟩) z.b.ac.length z.ca)).setCell ⟨w.heap.size+1+1,4,none⟩ (.slice (some ⟨z.gi,0,none⟩) z.b.ic.length z.ci)).setCell ⟨w.heap.size+1+1,5,none⟩ (.slice (some ⟨z.gb,0,none⟩) z.b.bs.length z.cb)).setCell ⟨w.heap.size+1+1,6,none⟩ (.slice (some ⟨z.gl,0,none⟩) z.b.ls.length z.cl)).setCell ⟨w.heap.size+1+1,7,none⟩ (.slice (some ⟨z.gt,0,none⟩) z.b.ts.length z.ct)).setCell ⟨w.heap.size+1+1,8,none⟩ (.int .i64 z.b.lot)).setCell ⟨w.heap.size+1+1,9,none⟩ (.int .i64 sg)).setCell ⟨w.heap.size+1+1,10,none⟩ (.int .i64 ct)).setCell ⟨w.heap.size+1,0,none⟩ (.bool up)).setCell ⟨w.heap.size+1,1,none⟩ (.int .i64 x.room)).setCell ⟨w.heap.size+1,2,none⟩ (.slice x.a x.ps.length x.c)).setCell ⟨w.heap.size+1,3,none⟩ (.slice (some ⟨z.ga,0,none⟩) z.b.ac.length z.ca)).setCell ⟨w.heap.size+1,4,none⟩ (.slice (some ⟨z.gi,0,none⟩) z.b.ic.length z.ci)).setCell ⟨w.heap.size+1,5,none⟩ (.slice (some ⟨z.gb,0,none⟩) z.b.bs.length z.cb)).setCell ⟨w.heap.size+1,6,none⟩ (.slice (some ⟨z.gl,0,none⟩) z.b.ls.length z.cl)).setCell ⟨w.heap.size+1,7,none⟩ (.slice (some ⟨z.gt,0,none⟩) z.b.ts.length z.ct)).setCell ⟨w.heap.size+1,8,none⟩ (.int .i64 z.b.lot)).setCell ⟨w.heap.size+1,9,none⟩ (.int .i64 sg)).setCell ⟨w.heap.size+1,10,none⟩ (.int .i64 ct))∧Bx11 ((((((((((((((((((((u).setCell ⟨w.heap.size+1+1,3,none⟩ (.slice (some ⟨z.ga,0,none⟩) z.b.ac.length z.ca)).setCell ⟨w.heap.size+1+1,4,none⟩ (.slice (some ⟨z.gi,0,none⟩) z.b.ic.length z.ci)).setCell ⟨w.heap.size+1+1,5,none⟩ (.slice (some ⟨z.gb,0,none⟩) z.b.bs.length z.cb)).setCell ⟨w.heap.size+1+1,6,none⟩ (.slice (some ⟨z.gl,0,none⟩) z.b.ls.length z.cl)).setCell ⟨w.heap.size+1+1,7,none⟩ (.slice (some ⟨z.gt,0,none⟩) z.b.ts.length z.ct)).setCell ⟨w.heap.size+1+1,8,none⟩ (.int .i64 z.b.lot)).setCell ⟨w.heap.size+1+1,9,none⟩ (.int .i64 sg)).setCell ⟨w.heap.size+1+1,10,none⟩ (.int .i64 ct)).setCell ⟨w.heap.size+1,0,none⟩ (.bool up)).setCell ⟨w.heap.size+1,1,none⟩ (.int .i64 x.room)).setCell ⟨w.heap.size+1,2,none⟩ (.slice x.a x.ps.length x.c)).setCell ⟨w.heap.size+1,3,none⟩ (.slice (some ⟨z.ga,0,none⟩) z.b.ac.length z.ca)).setCell ⟨w.heap.size+1,4,none⟩ (.slice (some ⟨z.gi,0,none⟩) z.b.ic.length z.ci)).setCell ⟨w.heap.size+1,5,none⟩ (.slice (some ⟨z.gb,0,none⟩) z.b.bs.length z.cb)).setCell ⟨w.heap.size+1,6,none⟩ (.slice (some ⟨z.gl,0,none⟩) z.b.ls.length z.cl)).setCell ⟨w.heap.size+1,7,none⟩ (.slice (some ⟨z.gt,0,none⟩) z.b.ts.length z.ct)).setCell ⟨w.heap.size+1,8,none⟩ (.int .i64 z.b.lot)).setCell ⟨w.heap.size+1,9,none⟩ (.int .i64 sg)).setCell ⟨w.heap.size+1,10,none⟩ (.int .i64 ct)) w.heap.size (w.heap.size+1) (.bool up) (.int .i64 x.room) (.slice x.a x.ps.length x.c) (.slice (some ⟨z.ga,0,none⟩) z.b.ac.length z.ca) (.slice (some ⟨z.gi,0,none⟩) z.b.ic.length z.ci) (.slice (some ⟨z.gb,0,none⟩) z.b.bs.length z.cb) (.slice (some ⟨z.gl,0,none⟩) z.b.ls.length z.cl) (.slice (some ⟨z.gt,0,none⟩) z.b.ts.length z.ct) (.int .i64 z.b.lot) (.int .i64 sg) (.int .i64 ct):=by
 have s3x:=K2.set3 (.slice (some ⟨z.ga,0,none⟩) z.b.ac.length z.ca)
 have s4:=s3x.1.set4 (.slice (some ⟨z.gi,0,none⟩) z.b.ic.length z.ci)
 have s5:=s4.1.set5 (.slice (some ⟨z.gb,0,none⟩) z.b.bs.length z.cb)
 have s6:=s5.1.set6 (.slice (some ⟨z.gl,0,none⟩) z.b.ls.length z.cl)
 have s7:=s6.1.set7 (.slice (some ⟨z.gt,0,none⟩) z.b.ts.length z.ct)
 have s8:=s7.1.set8 (.int .i64 z.b.lot)
 have s9:=s8.1.set9 (.int .i64 sg)
 have s10:=s9.1.set10 (.int .i64 ct)
 have G2:=(grow_grow (grow_grow (grow_grow (grow_grow (grow_grow (grow_grow (grow_grow s3x.2 s4.2) s5.2) s6.2) s7.2) s8.2) s9.2) s10.2)
 have L1:=K1.kept G2 (by simp)
 have t0:=L1.set0 (.bool up)
 have t1:=t0.1.set1 (.int .i64 x.room)
 have t2:=t1.1.set2 (.slice x.a x.ps.length x.c)
 have t3:=t2.1.set3 (.slice (some ⟨z.ga,0,none⟩) z.b.ac.length z.ca)
 have t4:=t3.1.set4 (.slice (some ⟨z.gi,0,none⟩) z.b.ic.length z.ci)
 have t5:=t4.1.set5 (.slice (some ⟨z.gb,0,none⟩) z.b.bs.length z.cb)
 have t6:=t5.1.set6 (.slice (some ⟨z.gl,0,none⟩) z.b.ls.length z.cl)
 have t7:=t6.1.set7 (.slice (some ⟨z.gt,0,none⟩) z.b.ts.length z.ct)
 have t8:=t7.1.set8 (.int .i64 z.b.lot)
 have t9:=t8.1.set9 (.int .i64 sg)
 have t10:=t9.1.set10 (.int .i64 ct)
 have G1:=(grow_grow (grow_grow (grow_grow (grow_grow (grow_grow (grow_grow (grow_grow (grow_grow (grow_grow (grow_grow t0.2 t1.2) t2.2) t3.2) t4.2) t5.2) t6.2) t7.2) t8.2) t9.2) t10.2)
 exact⟨App14.row_base (row_kept2 (row_kept2 D G2 (by omega)) G1 (by omega)) (by omega),((O.kept G2 (fun g e=>by cases e;omega)).kept G1 (fun g e=>by cases e;omega)).rebase (by omega),grow_low (grow_low B G2 ⟨by omega,B.size⟩) G1 ⟨by omega,Nat.le_trans B.size G2.size⟩,t10.1⟩
theorem toE(w:World)(up:Bool)(n:Int)(a:Option Addr)(len cap:Nat)(ps:List TF)(y:Ix)(sg ct:Int)(hl:ps.length=len)(h20:len≤1048576)(hr:ReadsF w a ps)(hy:RdI w y)(hs:Small y.b):
  Calls Tryz.prog 10 #[.agg #[.bool up,.int .i64 n,.slice a len cap,.slice y.aa y.b.ac.length y.ca,.slice y.ai y.b.ic.length y.ci,.slice y.ab y.b.bs.length y.cb,.slice y.al y.b.ls.length y.cl,.slice y.ats y.b.ts.length y.ct,.int .i64 y.b.lot,.int .i64 sg,.int .i64 ct]] w fun e w'=>∃(x:Dx) (z:Bx),x.room=n∧x.ps=ps∧z.b=y.b∧e= .returned (.agg #[.bool up,.int .i64 x.room,.slice x.a x.ps.length x.c,.slice (some ⟨z.ga,0,none⟩) z.b.ac.length z.ca,.slice (some ⟨z.gi,0,none⟩) z.b.ic.length z.ci,.slice (some ⟨z.gb,0,none⟩) z.b.bs.length z.cb,.slice (some ⟨z.gl,0,none⟩) z.b.ls.length z.cl,.slice (some ⟨z.gt,0,none⟩) z.b.ts.length z.ct,.int .i64 z.b.lot,.int .i64 sg,.int .i64 ct])∧OwD w' w.heap.size x∧Ow w' w.heap.size z∧Below w.heap.size w w':=by
 have b1:=one_more w (.cells #[.bool up,.int .i64 n,.slice a len cap,.slice y.aa y.b.ac.length y.ca,.slice y.ai y.b.ic.length y.ci,.slice y.ab y.b.bs.length y.cb,.slice y.al y.b.ls.length y.cl,.slice y.ats y.b.ts.length y.ct,.int .i64 y.b.lot,.int .i64 sg,.int .i64 ct] 33)
 have b2:=one_more (w.alloc (.cells #[.bool up,.int .i64 n,.slice a len cap,.slice y.aa y.b.ac.length y.ca,.slice y.ai y.b.ic.length y.ci,.slice y.ab y.b.bs.length y.cb,.slice y.al y.b.ls.length y.cl,.slice y.ats y.b.ts.length y.ct,.int .i64 y.b.lot,.int .i64 sg,.int .i64 ct] 33)) (.cells #[.bool false,.int .i64 0,.slice none 0 0,.slice none 0 0,.slice none 0 0,.slice none 0 0,.slice none 0 0,.slice none 0 0,.int .i64 0,.int .i64 0,.int .i64 0] 47)
 have b3:=one_more ((w.alloc (.cells #[.bool up,.int .i64 n,.slice a len cap,.slice y.aa y.b.ac.length y.ca,.slice y.ai y.b.ic.length y.ci,.slice y.ab y.b.bs.length y.cb,.slice y.al y.b.ls.length y.cl,.slice y.ats y.b.ts.length y.ct,.int .i64 y.b.lot,.int .i64 sg,.int .i64 ct] 33)).alloc (.cells #[.bool false,.int .i64 0,.slice none 0 0,.slice none 0 0,.slice none 0 0,.slice none 0 0,.slice none 0 0,.slice none 0 0,.int .i64 0,.int .i64 0,.int .i64 0] 47)) (.cells #[.bool up,.int .i64 0,.slice none 0 0,.slice none 0 0,.slice none 0 0,.slice none 0 0,.slice none 0 0,.slice none 0 0,.int .i64 0,.int .i64 0,.int .i64 0] 47)
 have I3:=zh (((K11.made w (.bool up) (.int .i64 n) (.slice a len cap) (.slice y.aa y.b.ac.length y.ca) (.slice y.ai y.b.ic.length y.ci) (.slice y.ab y.b.bs.length y.cb) (.slice y.al y.b.ls.length y.cl) (.slice y.ats y.b.ts.length y.ct) (.int .i64 y.b.lot) (.int .i64 sg) (.int .i64 ct) 33).step b2).step b3)
 have K1:=zh ((Bx11.made (w:=(w.alloc (.cells #[.bool up,.int .i64 n,.slice a len cap,.slice y.aa y.b.ac.length y.ca,.slice y.ai y.b.ic.length y.ci,.slice y.ab y.b.bs.length y.cb,.slice y.al y.b.ls.length y.cl,.slice y.ats y.b.ts.length y.ct,.int .i64 y.b.lot,.int .i64 sg,.int .i64 ct] 33))) (base:=w.heap.size) (g:=w.heap.size+1) (.bool false) (.int .i64 0) (.slice none 0 0) (.slice none 0 0) (.slice none 0 0) (.slice none 0 0) (.slice none 0 0) (.slice none 0 0) (.int .i64 0) (.int .i64 0) (.int .i64 0) (by simp) (by simp)).below b3 (by simp))
 have K2:=zh (Bx11.made (w:=((w.alloc (.cells #[.bool up,.int .i64 n,.slice a len cap,.slice y.aa y.b.ac.length y.ca,.slice y.ai y.b.ic.length y.ci,.slice y.ab y.b.bs.length y.cb,.slice y.al y.b.ls.length y.cl,.slice y.ats y.b.ts.length y.ct,.int .i64 y.b.lot,.int .i64 sg,.int .i64 ct] 33)).alloc (.cells #[.bool false,.int .i64 0,.slice none 0 0,.slice none 0 0,.slice none 0 0,.slice none 0 0,.slice none 0 0,.slice none 0 0,.int .i64 0,.int .i64 0,.int .i64 0] 47))) (base:=w.heap.size) (g:=w.heap.size+1+1) (.bool up) (.int .i64 0) (.slice none 0 0) (.slice none 0 0) (.slice none 0 0) (.slice none 0 0) (.slice none 0 0) (.slice none 0 0) (.int .i64 0) (.int .i64 0) (.int .i64 0) (by simp;omega) (by simp))
 have B3:=zh ((b1.trans (b2.mono (by simp))).trans (b3.mono (by simp;omega)))
 have s3:(((w.alloc (.cells #[.bool up,.int .i64 n,.slice a len cap,.slice y.aa y.b.ac.length y.ca,.slice y.ai y.b.ic.length y.ci,.slice y.ab y.b.bs.length y.cb,.slice y.al y.b.ls.length y.cl,.slice y.ats y.b.ts.length y.ct,.int .i64 y.b.lot,.int .i64 sg,.int .i64 ct] 33)).alloc (.cells #[.bool false,.int .i64 0,.slice none 0 0,.slice none 0 0,.slice none 0 0,.slice none 0 0,.slice none 0 0,.slice none 0 0,.int .i64 0,.int .i64 0,.int .i64 0] 47)).alloc (.cells #[.bool up,.int .i64 0,.slice none 0 0,.slice none 0 0,.slice none 0 0,.slice none 0 0,.slice none 0 0,.slice none 0 0,.int .i64 0,.int .i64 0,.int .i64 0] 47)).heap.size=w.heap.size+3:=by simp
 have RD:=zh (hr.below (zu B3))
 have RB:=zh (hy.below (zu B3))
 have RB0:=zh hy
 have TD:=zh (fun u h=>toD u n a len cap ps hl h20 h)
 have c0:=(K11.made w (.bool up) (.int .i64 n) (.slice a len cap) (.slice y.aa y.b.ac.length y.ca) (.slice y.ai y.b.ic.length y.ci) (.slice y.ab y.b.bs.length y.cb) (.slice y.al y.b.ls.length y.cl) (.slice y.ats y.b.ts.length y.ct) (.int .i64 y.b.lot) (.int .i64 sg) (.int .i64 ct) 33).c0
 obtain⟨d0,d1,d2,d3,d4,d5,d6,d7,d8,d9,d10⟩:=(zu I3).cs
 clear b1 b2 b3 hr hy hl h20
 go_enter Tryz.func10,Tryz.ntmps10
 go_wp2_with fail
 clear c0 d0 d1 d2 d3 d4 d5 d6 d7 d8 d9 d10
 generalize (((w.alloc (.cells #[.bool up,.int .i64 n,.slice a len cap,.slice y.aa y.b.ac.length y.ca,.slice y.ai y.b.ic.length y.ci,.slice y.ab y.b.bs.length y.cb,.slice y.al y.b.ls.length y.cl,.slice y.ats y.b.ts.length y.ct,.int .i64 y.b.lot,.int .i64 sg,.int .i64 ct] 33)).alloc (.cells #[.bool false,.int .i64 0,.slice none 0 0,.slice none 0 0,.slice none 0 0,.slice none 0 0,.slice none 0 0,.slice none 0 0,.int .i64 0,.int .i64 0,.int .i64 0] 47)).alloc (.cells #[.bool up,.int .i64 0,.slice none 0 0,.slice none 0 0,.slice none 0 0,.slice none 0 0,.slice none 0 0,.slice none 0 0,.int .i64 0,.int .i64 0,.int .i64 0] 47))=W at *
 refine(zu TD W (zu RD)).mono ?_
 rintro e u1 ⟨x,rfl,rfl,rfl,od,bb⟩
 have us:=bb.size
 have I4:=zh ((zu I3).step bb)
 replace K1:=zh ((zu K1).below bb (by omega))
 replace K2:=zh ((zu K2).below bb (by omega))
 have B4:=zh ((zu B3).trans (bb.mono (by omega)))
 have R4:=zh ((zu RB).below bb)
 have OD:=zh od
 clear bb od I3 RD RB B3
 have h0:=(zu K2).free 0
 have h1:=(zu K2).free 1
 have h2:=(zu K2).free 2
 have h3:=(zu K2).free 3
 have h4:=(zu K2).free 4
 have h5:=(zu K2).free 5
 have h6:=(zu K2).free 6
 have h7:=(zu K2).free 7
 have h8:=(zu K2).free 8
 have h9:=(zu K2).free 9
 have h10:=(zu K2).free 10
 obtain⟨p0,p1,p2,p3,p4,p5,p6,p7,p8,p9,p10⟩:=(zu K2).cs
 obtain⟨d0,d1,d2,d3,d4,d5,d6,d7,d8,d9,d10⟩:=(zu I4).cs
 have M:=zh (show Bx11 (((u1).setCell ⟨w.heap.size+1+1,1,none⟩ (.int .i64 x.room)).setCell ⟨w.heap.size+1+1,2,none⟩ (.slice x.a x.ps.length x.c)) w.heap.size (w.heap.size+1+1) (.bool up) (.int .i64 x.room) (.slice x.a x.ps.length x.c) (.slice none 0 0) (.slice none 0 0) (.slice none 0 0) (.slice none 0 0) (.slice none 0 0) (.int .i64 0) (.int .i64 0) (.int .i64 0)∧u1.grownBy (((u1).setCell ⟨w.heap.size+1+1,1,none⟩ (.int .i64 x.room)).setCell ⟨w.heap.size+1+1,2,none⟩ (.slice x.a x.ps.length x.c)) (some (w.heap.size+1+1)) from by
  have s1:=(zu K2).set1 (.int .i64 x.room)
  have s2:=s1.1.set2 (.slice x.a x.ps.length x.c)
  exact⟨s2.1,grow_grow s1.2 s2.2⟩)
 go_wp2_with fail
 clear h0 h1 h2 h3 h4 h5 h6 h7 h8 h9 h10 p0 p1 p2 p3 p4 p5 p6 p7 p8 p9 p10 d0 d1 d2 d3 d4 d5 d6 d7 d8 d9 d10
 generalize ((u1).setCell ⟨w.heap.size+1+1,1,none⟩ (.int .i64 x.room)).setCell ⟨w.heap.size+1+1,2,none⟩ (.slice x.a x.ps.length x.c)=u2 at *
 have g2:=(zu M).2
 have e2:∀j,j<w.heap.size+1+1→u2.heap[j]?=u1.heap[j]?:=fun j hj=>g2.block j (by omega) (by simp;omega)
 have u2s:=g2.size
 have b2x:Below (w.heap.size+1+1) u1 u2:=⟨g2.os,g2.tape,g2.output,g2.size,e2⟩
 replace K1:=zh ((zu K1).below b2x (by omega))
 replace K2:=zh (zu M).1
 have I5:=zh ((zu I4).low b2x (by omega))
 have B5:=zh ((zu B4).trans (b2x.mono (by omega)))
 have OD5:=zh (show OwD u2 W.heap.size x from row_kept2 (zu OD) g2 (by omega))
 have R5:=zh (show RdI u2 y from(zu RB0).below (zu B5))
 clear M g2 e2 b2x I4 B4 OD R4
 have d3:=(zu I5).c3
 have d4:=(zu I5).c4
 have d5:=(zu I5).c5
 have d6:=(zu I5).c6
 have d7:=(zu I5).c7
 have d8:=(zu I5).c8
 go_wp2_with fail
 refine(toB u2 y (zu R5) hs).mono ?_
 rintro e u ⟨z,hz,rfl,oz,bb⟩
 have us2:=bb.size
 replace K1:=zh ((zu K1).below bb (by omega))
 replace K2:=zh ((zu K2).below bb (by omega))
 have I6:=zh ((zu I5).step bb)
 have B6:=zh ((zu B5).trans (bb.mono (by omega)))
 have OD6:=zh ((zu OD5).step bb)
 have OZ:=zh (oz.rebase (show W.heap.size≤u2.heap.size by omega))
 have HZ:=zh hz
 clear bb oz hz I5 R5 B5 OD5 d3 d4 d5 d6 d7 d8
 have h0:=(zu K2).free 0
 have h1:=(zu K2).free 1
 have h2:=(zu K2).free 2
 have h3:=(zu K2).free 3
 have h4:=(zu K2).free 4
 have h5:=(zu K2).free 5
 have h6:=(zu K2).free 6
 have h7:=(zu K2).free 7
 have h8:=(zu K2).free 8
 have h9:=(zu K2).free 9
 have h10:=(zu K2).free 10
 have f0:=(zu K1).free 0
 have f1:=(zu K1).free 1
 have f2:=(zu K1).free 2
 have f3:=(zu K1).free 3
 have f4:=(zu K1).free 4
 have f5:=(zu K1).free 5
 have f6:=(zu K1).free 6
 have f7:=(zu K1).free 7
 have f8:=(zu K1).free 8
 have f9:=(zu K1).free 9
 have f10:=(zu K1).free 10
 obtain⟨p0,p1,p2,p3,p4,p5,p6,p7,p8,p9,p10⟩:=(zu K2).cs
 obtain⟨q0,q1,q2,q3,q4,q5,q6,q7,q8,q9,q10⟩:=(zu K1).cs
 have d9:=(zu I6).c9
 have d10:=(zu I6).c10
 have FIN:=zh (fin11 (W:=W) up sg ct (zu B6) (zu K1) (zu K2) (zu OD6) (zu OZ) (by omega) s3)
 clear K1 K2 B6 OD6 OZ
 go_wp2
 clear h0 h1 h2 h3 h4 h5 h6 h7 h8 h9 h10 f0 f1 f2 f3 f4 f5 f6 f7 f8 f9 f10 p0 p1 p2 p3 p4 p5 p6 p7 p8 p9 p10 q0 q1 q2 q3 q4 q5 q6 q7 q8 q9 q10 d9 d10
 generalize (((((((((((((((((((u).setCell ⟨w.heap.size+1+1,3,none⟩ (.slice (some ⟨z.ga,0,none⟩) z.b.ac.length z.ca)).setCell ⟨w.heap.size+1+1,4,none⟩ (.slice (some ⟨z.gi,0,none⟩) z.b.ic.length z.ci)).setCell ⟨w.heap.size+1+1,5,none⟩ (.slice (some ⟨z.gb,0,none⟩) z.b.bs.length z.cb)).setCell ⟨w.heap.size+1+1,6,none⟩ (.slice (some ⟨z.gl,0,none⟩) z.b.ls.length z.cl)).setCell ⟨w.heap.size+1+1,7,none⟩ (.slice (some ⟨z.gt,0,none⟩) z.b.ts.length z.ct)).setCell ⟨w.heap.size+1+1,8,none⟩ (.int .i64 z.b.lot)).setCell ⟨w.heap.size+1+1,9,none⟩ (.int .i64 sg)).setCell ⟨w.heap.size+1+1,10,none⟩ (.int .i64 ct)).setCell ⟨w.heap.size+1,0,none⟩ (.bool up)).setCell ⟨w.heap.size+1,1,none⟩ (.int .i64 x.room)).setCell ⟨w.heap.size+1,2,none⟩ (.slice x.a x.ps.length x.c)).setCell ⟨w.heap.size+1,3,none⟩ (.slice (some ⟨z.ga,0,none⟩) z.b.ac.length z.ca)).setCell ⟨w.heap.size+1,4,none⟩ (.slice (some ⟨z.gi,0,none⟩) z.b.ic.length z.ci)).setCell ⟨w.heap.size+1,5,none⟩ (.slice (some ⟨z.gb,0,none⟩) z.b.bs.length z.cb)).setCell ⟨w.heap.size+1,6,none⟩ (.slice (some ⟨z.gl,0,none⟩) z.b.ls.length z.cl)).setCell ⟨w.heap.size+1,7,none⟩ (.slice (some ⟨z.gt,0,none⟩) z.b.ts.length z.ct)).setCell ⟨w.heap.size+1,8,none⟩ (.int .i64 z.b.lot)).setCell ⟨w.heap.size+1,9,none⟩ (.int .i64 sg)).setCell ⟨w.heap.size+1,10,none⟩ (.int .i64 ct)=U at *
 have r0:=(zu FIN).2.2.2.c0
 have r1:=(zu FIN).2.2.2.c1
 have r2:=(zu FIN).2.2.2.c2
 have r3:=(zu FIN).2.2.2.c3
 have r4:=(zu FIN).2.2.2.c4
 have r5:=(zu FIN).2.2.2.c5
 have r6:=(zu FIN).2.2.2.c6
 have r7:=(zu FIN).2.2.2.c7
 have r8:=(zu FIN).2.2.2.c8
 have r9:=(zu FIN).2.2.2.c9
 have r10:=(zu FIN).2.2.2.c10
 refine bodyPost_ret (v:= .agg #[.bool up,.int .i64 x.room,.slice x.a x.ps.length x.c,.slice (some ⟨z.ga,0,none⟩) z.b.ac.length z.ca,.slice (some ⟨z.gi,0,none⟩) z.b.ic.length z.ci,.slice (some ⟨z.gb,0,none⟩) z.b.bs.length z.cb,.slice (some ⟨z.gl,0,none⟩) z.b.ls.length z.cl,.slice (some ⟨z.gt,0,none⟩) z.b.ts.length z.ct,.int .i64 z.b.lot,.int .i64 sg,.int .i64 ct]) (by simp[results,Tryz.results10,go_sem,r0,r1,r2,r3,r4,r5,r6,r7,r8,r9,r10]) rfl ?_
 exact⟨x,z,rfl,rfl,zu HZ,rfl,(zu FIN).1,(zu FIN).2.1,(zu FIN).2.2.1⟩
theorem eqE(w:World)(up:Bool)(x x2:Dx)(y y2:Ix)(sg ct:Int)(hr:x2.room=x.room)(hp:x2.ps=x.ps)(hb:y2.b=y.b)(h1:Re w x y)(h2:Re w x2 y2):
  Calls Tryz.prog 12 #[.agg #[.bool up,.int .i64 x.room,.slice x.a x.ps.length x.c,.slice y.aa y.b.ac.length y.ca,.slice y.ai y.b.ic.length y.ci,.slice y.ab y.b.bs.length y.cb,.slice y.al y.b.ls.length y.cl,.slice y.ats y.b.ts.length y.ct,.int .i64 y.b.lot,.int .i64 sg,.int .i64 ct],.agg #[.bool up,.int .i64 x2.room,.slice x2.a x2.ps.length x2.c,.slice y2.aa y2.b.ac.length y2.ca,.slice y2.ai y2.b.ic.length y2.ci,.slice y2.ab y2.b.bs.length y2.cb,.slice y2.al y2.b.ls.length y2.cl,.slice y2.ats y2.b.ts.length y2.ct,.int .i64 y2.b.lot,.int .i64 sg,.int .i64 ct]] w fun e w'=>e= .returned (.bool true)∧Below w.heap.size w w':=by
 have b1:=one_more w (.cells #[.bool up,.int .i64 x.room,.slice x.a x.ps.length x.c,.slice y.aa y.b.ac.length y.ca,.slice y.ai y.b.ic.length y.ci,.slice y.ab y.b.bs.length y.cb,.slice y.al y.b.ls.length y.cl,.slice y.ats y.b.ts.length y.ct,.int .i64 y.b.lot,.int .i64 sg,.int .i64 ct] 47)
 have b2:=one_more (w.alloc (.cells #[.bool up,.int .i64 x.room,.slice x.a x.ps.length x.c,.slice y.aa y.b.ac.length y.ca,.slice y.ai y.b.ic.length y.ci,.slice y.ab y.b.bs.length y.cb,.slice y.al y.b.ls.length y.cl,.slice y.ats y.b.ts.length y.ct,.int .i64 y.b.lot,.int .i64 sg,.int .i64 ct] 47)) (.cells #[.bool up,.int .i64 x2.room,.slice x2.a x2.ps.length x2.c,.slice y2.aa y2.b.ac.length y2.ca,.slice y2.ai y2.b.ic.length y2.ci,.slice y2.ab y2.b.bs.length y2.cb,.slice y2.al y2.b.ls.length y2.cl,.slice y2.ats y2.b.ts.length y2.ct,.int .i64 y2.b.lot,.int .i64 sg,.int .i64 ct] 47)
 have B:=zh (b1.trans (b2.mono b1.size))
 have K1:=zh ((K11.made w (.bool up) (.int .i64 x.room) (.slice x.a x.ps.length x.c) (.slice y.aa y.b.ac.length y.ca) (.slice y.ai y.b.ic.length y.ci) (.slice y.ab y.b.bs.length y.cb) (.slice y.al y.b.ls.length y.cl) (.slice y.ats y.b.ts.length y.ct) (.int .i64 y.b.lot) (.int .i64 sg) (.int .i64 ct) 47).step b2)
 have k2:=K11.made (w.alloc (.cells #[.bool up,.int .i64 x.room,.slice x.a x.ps.length x.c,.slice y.aa y.b.ac.length y.ca,.slice y.ai y.b.ic.length y.ci,.slice y.ab y.b.bs.length y.cb,.slice y.al y.b.ls.length y.cl,.slice y.ats y.b.ts.length y.ct,.int .i64 y.b.lot,.int .i64 sg,.int .i64 ct] 47)) (.bool up) (.int .i64 x2.room) (.slice x2.a x2.ps.length x2.c) (.slice y2.aa y2.b.ac.length y2.ca) (.slice y2.ai y2.b.ic.length y2.ci) (.slice y2.ab y2.b.bs.length y2.cb) (.slice y2.al y2.b.ls.length y2.cl) (.slice y2.ats y2.b.ts.length y2.ct) (.int .i64 y2.b.lot) (.int .i64 sg) (.int .i64 ct) 47
 rw[show(w.alloc (.cells #[.bool up,.int .i64 x.room,.slice x.a x.ps.length x.c,.slice y.aa y.b.ac.length y.ca,.slice y.ai y.b.ic.length y.ci,.slice y.ab y.b.bs.length y.cb,.slice y.al y.b.ls.length y.cl,.slice y.ats y.b.ts.length y.ct,.int .i64 y.b.lot,.int .i64 sg,.int .i64 ct] 47)).heap.size=w.heap.size+1 by simp] at k2
 have K2:=zh k2
 have R1:=zh (h1.step (zu B))
 have R2:=zh (h2.step (zu B))
 have ED:=zh (fun u a b=>eqD u x x2 hr hp a b)
 have EB:=zh (fun u a b=>eqBV u y y2 hb a b)
 have uu:(up !=up)=false:=by simp
 have ss:(sg !=sg)=false:=by simp
 have cc:(ct !=ct)=false:=by simp
 clear b1 b2 k2 h1 h2 hr hp hb
 obtain⟨c0,c1,c2,c3,c4,c5,c6,c7,c8,c9,c10⟩:=(zu K1).cs
 obtain⟨d0,d1,d2,d3,d4,d5,d6,d7,d8,d9,d10⟩:=(zu K2).cs
 go_enter Tryz.func12,Tryz.ntmps12
 go_wp2_with fail
 clear c0 c1 c2 c3 c4 c5 c6 c7 c8 c9 c10 d0 d1 d2 d3 d4 d5 d6 d7 d8 d9 d10
 generalize (w.alloc (.cells #[.bool up,.int .i64 x.room,.slice x.a x.ps.length x.c,.slice y.aa y.b.ac.length y.ca,.slice y.ai y.b.ic.length y.ci,.slice y.ab y.b.bs.length y.cb,.slice y.al y.b.ls.length y.cl,.slice y.ats y.b.ts.length y.ct,.int .i64 y.b.lot,.int .i64 sg,.int .i64 ct] 47)).alloc (.cells #[.bool up,.int .i64 x2.room,.slice x2.a x2.ps.length x2.c,.slice y2.aa y2.b.ac.length y2.ca,.slice y2.ai y2.b.ic.length y2.ci,.slice y2.ab y2.b.bs.length y2.cb,.slice y2.al y2.b.ls.length y2.cl,.slice y2.ats y2.b.ts.length y2.ct,.int .i64 y2.b.lot,.int .i64 sg,.int .i64 ct] 47)=W at *
 refine(zu ED W (zu R1).d (zu R2).d).mono ?_
 rintro e u ⟨rfl,bb⟩
 replace K1:=zh ((zu K1).step bb)
 replace K2:=zh ((zu K2).step bb)
 replace R1:=zh ((zu R1).step bb)
 replace R2:=zh ((zu R2).step bb)
 replace B:=zh ((zu B).trans (bb.mono (zu B).size))
 clear bb ED
 obtain⟨c0,c1,c2,c3,c4,c5,c6,c7,c8,c9,c10⟩:=(zu K1).cs
 obtain⟨d0,d1,d2,d3,d4,d5,d6,d7,d8,d9,d10⟩:=(zu K2).cs
 go_wp2_with fail
 refine(zu EB u (zu R1).b (zu R2).b).mono ?_
 rintro e v ⟨rfl,bb⟩
 clear c0 c1 c2 c3 c4 c5 c6 c7 c8 c9 c10 d0 d1 d2 d3 d4 d5 d6 d7 d8 d9 d10
 replace K1:=zh ((zu K1).step bb)
 replace K2:=zh ((zu K2).step bb)
 replace B:=zh ((zu B).trans (bb.mono (zu B).size))
 clear bb EB R1 R2
 obtain⟨c0,c1,c2,c3,c4,c5,c6,c7,c8,c9,c10⟩:=(zu K1).cs
 obtain⟨d0,d1,d2,d3,d4,d5,d6,d7,d8,d9,d10⟩:=(zu K2).cs
 go_wp2
 go_ret
 exact⟨rfl,zu B⟩
theorem row_keepV{W W':World}{base base':Nat}{y:Ix}{v:Value}{n:Nat}{vs:List Value}(h:W.ownsRow base 64 3 v n vs)(k:TurnV y W W')(o:OwV W base' y):W'.ownsRow base 64 3 v n vs:=by
 refine⟨h.1,?_⟩
 rcases h.2 with h1|⟨g,c,cur,h1,h2,h3,h4⟩
 ·exact .inl h1
 ·have hl:=(World.ownsRow.lt h g (by rw[h1];rfl)).2
  have ne:∀{e':TypeId} {m':Nat} {v':Value} {n':Nat} {vs':List Value},W.ownsRow base' e' m' v' n' vs'→64≠e'→some g≠v'.ownBlock:=fun{e' m' v' n' vs'} q nq eq=>by
   rcases q.2 with⟨k1,_⟩|⟨b2,c2,cur2,k1,_,k2,_⟩
   ·rw[k1] at eq;simp[Value.ownBlock] at eq
   ·rw[k1] at eq
    have e2:g=b2:=by simpa[Value.ownBlock] using eq
    subst e2
    rw[h3] at k2
    injection k2 with k2
    injection k2 with _ k2
    exact nq k2
  exact .inr ⟨g,c,cur,h1,h2,(k.block g hl (ne o.oa (by decide)) (ne o.oi (by decide)) (ne o.ob (by decide)) (ne o.ol (by decide)) (ne o.ot (by decide))).trans h3,h4⟩
def mE(x:Dx)(y:Ix):Int:=g5 (1+3*(x.ps.length:Int)) y.b
theorem mE_bd{x:Dx}{y:Ix}(hd:x.ps.length≤1048576)(hb:Small y.b):0≤mE x y∧mE x y≤100000000:=(g_bd (by omega) (by omega) hb).2.2.2.2
theorem rg_turnD{W W':World}{lo hi:Nat}{x:Dx}(k:TurnD x W W')(i:∀g,(Value.slice x.a x.ps.length x.c).ownBlock=some g→lo≤g∧g<hi):Rg lo hi W W':=
 ⟨k.os,k.tape,k.output,k.size,fun j hj hn=>k.block j hj (fun e=>by have:=i j e.symm;omega)⟩
theorem rg_turnV{W W':World}{lo hi:Nat}{x:Dx}{y:Ix}(k:TurnV y W W')(i:Inn lo hi x y):Rg lo hi W W':=
 ⟨k.os,k.tape,k.output,k.size,fun j hj hn=>k.block j hj (fun e=>by have:=i.2.1 j e.symm;omega) (fun e=>by have:=i.2.2.1 j e.symm;omega) (fun e=>by have:=i.2.2.2.1 j e.symm;omega) (fun e=>by have:=i.2.2.2.2.1 j e.symm;omega) (fun e=>by have:=i.2.2.2.2.2 j e.symm;omega)⟩
theorem markE(w:World)(lo g:Nat)(up:Bool)(x:Dx)(y:Ix)(sg ct:Int)(h:Ag w lo g up x y sg ct):
  Calls Tryz.prog 15 #[.agg #[.bool up,.int .i64 x.room,.slice x.a x.ps.length x.c,.slice y.aa y.b.ac.length y.ca,.slice y.ai y.b.ic.length y.ci,.slice y.ab y.b.bs.length y.cb,.slice y.al y.b.ls.length y.cl,.slice y.ats y.b.ts.length y.ct,.int .i64 y.b.lot,.int .i64 sg,.int .i64 ct],.int .i64 1] w fun e w'=>e= .returned (.int .i64 (mE x y))∧Am w' lo g up x y sg ct∧Rg lo g w w':=by
 have b1:=one_more w (.cells #[.bool up,.int .i64 x.room,.slice x.a x.ps.length x.c,.slice y.aa y.b.ac.length y.ca,.slice y.ai y.b.ic.length y.ci,.slice y.ab y.b.bs.length y.cb,.slice y.al y.b.ls.length y.cl,.slice y.ats y.b.ts.length y.ct,.int .i64 y.b.lot,.int .i64 sg,.int .i64 ct] 47)
 have K0:=zh (K11.made w (.bool up) (.int .i64 x.room) (.slice x.a x.ps.length x.c) (.slice y.aa y.b.ac.length y.ca) (.slice y.ai y.b.ic.length y.ci) (.slice y.ab y.b.bs.length y.cb) (.slice y.al y.b.ls.length y.cl) (.slice y.ats y.b.ts.length y.ct) (.int .i64 y.b.lot) (.int .i64 sg) (.int .i64 ct) 47)
 have H1:=zh (h.step b1)
 have RG:=zh (show Rg lo g w (w.alloc (.cells #[.bool up,.int .i64 x.room,.slice x.a x.ps.length x.c,.slice y.aa y.b.ac.length y.ca,.slice y.ai y.b.ic.length y.ci,.slice y.ab y.b.bs.length y.cb,.slice y.al y.b.ls.length y.cl,.slice y.ats y.b.ts.length y.ct,.int .i64 y.b.lot,.int .i64 sg,.int .i64 ct] 47)) from Rg.of b1)
 have sz:(w.alloc (.cells #[.bool up,.int .i64 x.room,.slice x.a x.ps.length x.c,.slice y.aa y.b.ac.length y.ca,.slice y.ai y.b.ic.length y.ci,.slice y.ab y.b.bs.length y.cb,.slice y.al y.b.ls.length y.cl,.slice y.ats y.b.ts.length y.ct,.int .i64 y.b.lot,.int .i64 sg,.int .i64 ct] 47)).heap.size=w.heap.size+1:=by simp
 have lx:=h.nd
 have lg:=h.k.lt
 have ll:=h.gl
 clear b1 h
 obtain⟨c0,c1,c2,c3,c4,c5,c6,c7,c8,c9,c10⟩:=(zu K0).cs
 go_enter Tryz.func15,Tryz.ntmps15
 go_wp2_with fail
 clear c0 c1 c2 c3 c4 c5 c6 c7 c8 c9 c10
 generalize hW:w.alloc (.cells #[.bool up,.int .i64 x.room,.slice x.a x.ps.length x.c,.slice y.aa y.b.ac.length y.ca,.slice y.ai y.b.ic.length y.ci,.slice y.ab y.b.bs.length y.cb,.slice y.al y.b.ls.length y.cl,.slice y.ats y.b.ts.length y.ct,.int .i64 y.b.lot,.int .i64 sg,.int .i64 ct] 47)=W at *
 refine(markD W lo x lx (by omega) (zu H1).d).mono ?_
 rintro e u ⟨rfl,om,tn⟩
 have r1:=rg_turnD tn (zu H1).i.1
 have z1:=r1.size
 have gr:W.grownBy u (Value.slice x.a x.ps.length x.c).ownBlock:=⟨tn.os,tn.tape,tn.output,tn.size,fun i hi ne=>tn.block i hi ne⟩
 have O:=zh om
 have NN:=zh (And.intro (zu H1).i (And.intro (zu H1).gl (zu H1).nb))
 have KB:=zh (show OwV u lo y from⟨other (zu H1).b.oa (zu H1).d (by decide) gr,other (zu H1).b.oi (zu H1).d (by decide) gr,other (zu H1).b.ob (zu H1).d (by decide) gr,other (zu H1).b.ol (zu H1).d (by decide) gr,other (zu H1).b.ot (zu H1).d (by decide) gr⟩)
 have KG:=zh ((zu H1).k.out r1 (.inr (Nat.le_refl _)))
 have K1:=zh ((zu K0).out r1 (.inr (by omega)))
 have RG2:=zh ((zu RG).trans r1)
 clear om tn gr r1 H1 K0 RG
 have c3:=(zu K1).c3
 have c4:=(zu K1).c4
 have c5:=(zu K1).c5
 have c6:=(zu K1).c6
 have c7:=(zu K1).c7
 have c8:=(zu K1).c8
 go_wp2_with fail
 refine(markBVG u lo y (1+3*(x.ps.length:Int)) (by omega) (by omega) (zu KB) (by omega) (zu NN).2.2).mono ?_
 rintro e v ⟨rfl,ob,tv⟩
 have r2:=rg_turnV tv (zu NN).1
 have q5:=(zu KB)
 have gr:∀{k:Nat},True→True:=fun _=>trivial
 have OD:=zh (show OmD v lo x from row_keepV (zu O) tv q5)
 have F:=zh (show Am v lo g up x y sg ct from⟨(zu KG).out r2 (.inr (Nat.le_refl _)),zu OD,ob,(zu NN).1,(zu NN).2.1,lx,(zu NN).2.2⟩)
 have RG3:=zh ((zu RG2).trans r2)
 clear ob tv r2 q5 gr O OD KG KB RG2 NN K1 c3 c4 c5 c6 c7 c8
 go_wp2
 go_ret
 exact⟨rfl,zu F,zu RG3⟩
theorem heldE(w:World)(lo g:Nat)(up:Bool)(x:Dx)(y:Ix)(sg ct:Int)(h:Am w lo g up x y sg ct):
  Calls Tryz.prog 16 #[.agg #[.bool up,.int .i64 x.room,.slice x.a x.ps.length x.c,.slice y.aa y.b.ac.length y.ca,.slice y.ai y.b.ic.length y.ci,.slice y.ab y.b.bs.length y.cb,.slice y.al y.b.ls.length y.cl,.slice y.ats y.b.ts.length y.ct,.int .i64 y.b.lot,.int .i64 sg,.int .i64 ct],.int .i64 1] w fun e w'=>e= .returned (.int .i64 (mE x y))∧Below w.heap.size w w':=by
 have b1:=one_more w (.cells #[.bool up,.int .i64 x.room,.slice x.a x.ps.length x.c,.slice y.aa y.b.ac.length y.ca,.slice y.ai y.b.ic.length y.ci,.slice y.ab y.b.bs.length y.cb,.slice y.al y.b.ls.length y.cl,.slice y.ats y.b.ts.length y.ct,.int .i64 y.b.lot,.int .i64 sg,.int .i64 ct] 47)
 have K0:=zh (K11.made w (.bool up) (.int .i64 x.room) (.slice x.a x.ps.length x.c) (.slice y.aa y.b.ac.length y.ca) (.slice y.ai y.b.ic.length y.ci) (.slice y.ab y.b.bs.length y.cb) (.slice y.al y.b.ls.length y.cl) (.slice y.ats y.b.ts.length y.ct) (.int .i64 y.b.lot) (.int .i64 sg) (.int .i64 ct) 47)
 have H1:=zh (h.step b1)
 have B:=zh b1
 have q1:¬(1+3*(x.ps.length:Int)<0):=by omega
 have lx:=h.nd
 have HB:=zh (mE_bd h.nd h.nb)
 clear b1 h
 obtain⟨c0,c1,c2,c3,c4,c5,c6,c7,c8,c9,c10⟩:=(zu K0).cs
 go_enter Tryz.func16,Tryz.ntmps16
 go_wp2_with fail
 clear c0 c1 c2 c3 c4 c5 c6 c7 c8 c9 c10
 generalize hW:w.alloc (.cells #[.bool up,.int .i64 x.room,.slice x.a x.ps.length x.c,.slice y.aa y.b.ac.length y.ca,.slice y.ai y.b.ic.length y.ci,.slice y.ab y.b.bs.length y.cb,.slice y.al y.b.ls.length y.cl,.slice y.ats y.b.ts.length y.ct,.int .i64 y.b.lot,.int .i64 sg,.int .i64 ct] 47)=W at *
 refine(heldD W lo x lx (zu H1).d).mono ?_
 rintro e u ⟨rfl,bb⟩
 replace H1:=zh ((zu H1).step bb)
 replace K0:=zh ((zu K0).step bb)
 replace B:=zh ((zu B).trans (bb.mono (by rw[←hW];simp)))
 clear bb
 have c3:=(zu K0).c3
 have c4:=(zu K0).c4
 have c5:=(zu K0).c5
 have c6:=(zu K0).c6
 have c7:=(zu K0).c7
 have c8:=(zu K0).c8
 go_wp2_with fail
 refine(heldBVG u lo y (1+3*(x.ps.length:Int)) (by omega) (by omega) (zu H1).b (zu H1).nb).mono ?_
 rintro e v ⟨rfl,bb⟩
 replace B:=zh ((zu B).trans (bb.mono (zu B).size))
 clear bb K0 H1 c3 c4 c5 c6 c7 c8
 have mb:=(zu HB).1
 have q2:¬(g5 (1+3*(x.ps.length:Int)) y.b<0):=by show ¬(mE x y<0);omega
 go_wp2
 go_ret
 exact⟨rfl,zu B⟩
end EngH17
namespace CrE17
open Fil14 DiskH14 DkH14 SDk14 SOk14 EFin17 SEngOk17 SStep16 LawW16
open BMem (Small)
open Bks (Bk)
open SCrash14 (crashD)
noncomputable def downE (up:Bool) (room:Int) (ps:List TF) (b:Bk) (sg ct:Int) (d:Int×List TF) (keep:Int):PE×Int:=if up=true then((false,crashD d.1 d.2 keep,⟨[],[],[],[],[],0⟩,0,0),0) else((up,(room,ps),b,sg,ct),2)
noncomputable def crashE (v up:Bool) (room:Int) (ps:List TF) (b:Bk) (sg ct keep:Int):PE×Int:=if v=true then downE up room ps b sg ct (room,ps) keep else(noE,1)
def FitE(r:PE):Prop:=Small r.2.2.1∧r.2.1.2.length≤1048576
theorem fit_no:FitE noE:=⟨⟨by simp[noE],by simp[noE],by simp[noE],by simp[noE],by simp[noE]⟩,by simp[noE]⟩
theorem fit_same{up:Bool}{room:Int}{ps:List TF}{b:Bk}{sg ct:Int}(hs:Small b)(h:ps.length≤1048576):FitE (up,(room,ps),b,sg,ct):=⟨hs,h⟩
theorem len_crash{room:Int}{ps:List TF}{keep:Int}(h:ps.length≤1048576):(crashD room ps keep).2.length≤1048576:=by
 unfold SCrash14.crashD
 split
 ·simpa using h
 ·simp
theorem fit_down{up:Bool}{room:Int}{ps:List TF}{b:Bk}{sg ct keep:Int}{d:Int×List TF}(hs:Small b)(h:ps.length≤1048576)(hd:d.2.length≤1048576):FitE (downE up room ps b sg ct d keep).1:=by
 unfold downE
 split
 ·exact⟨⟨by simp,by simp,by simp,by simp,by simp⟩,len_crash hd⟩
 ·exact fit_same hs h
theorem fit_crash{v up:Bool}{room:Int}{ps:List TF}{b:Bk}{sg ct keep:Int}(hs:Small b)(h:ps.length≤1048576):FitE (crashE v up room ps b sg ct keep).1:=by
 unfold crashE
 split
 ·exact fit_down hs h h
 ·exact fit_no
end CrE17
namespace SEngNw17
open Fil14 OpensF14 DiskH14 DkH14 SDk14 SOk14 EBx17 EFin17 SEngOk17 BMemV13 VB13
open BMem (Bx Rd)
open BHelp (Ix)
open Bks (Bk Ok)
open Lots (Says says_of)
open SegP15 (okS)
def noF(room:Int):Dx:=⟨room,none,0,[]⟩
theorem rdV_no(w:World):RdV w noI:=⟨by simp[noI],by simp[noI],by simp[noI],by simp[noI],by simp[noI],by simp[noI],by simp[noI],by simp[noI],by simp[noI],by simp[noI],by simp[noI],by simp[noI],by simp[noI],by simp[noI],by simp[noI]⟩
theorem rdD_no(w:World)(room:Int):RdD w (noF room):=⟨by simp[noF],by simp[noF],by simp[noF]⟩
def newE(v:Bool)(room:Int):PE:=if v=true then(true,(room,[]),⟨[],[],[],[],[],0⟩,0,0) else noE
theorem sOkN(w:World)(room:Int)(vb v:Bool)(hb:Says vb (Ok ⟨[],[],[],[],[],0⟩))(hv:Says v (OkE true room [] ⟨[],[],[],[],[],0⟩ 0 0)):
  Calls Tryz.prog 9 #[.agg #[.bool true,.int .i64 room,.slice none 0 0,.slice none 0 0,.slice none 0 0,.slice none 0 0,.slice none 0 0,.slice none 0 0,.int .i64 0,.int .i64 0,.int .i64 0]] w fun e w'=>e= .returned (.bool v)∧Below w.heap.size w w':=by
 have KW:=zh (Bx11.made (w:=w) (base:=w.heap.size) (g:=w.heap.size) (.bool true) (.int .i64 room) (.slice none 0 0) (.slice none 0 0) (.slice none 0 0) (.slice none 0 0) (.slice none 0 0) (.slice none 0 0) (.int .i64 0) (.int .i64 0) (.int .i64 0) (Nat.le_refl _) rfl)
 have BW:=zh (one_more w (.cells #[.bool true,.int .i64 room,.slice none 0 0,.slice none 0 0,.slice none 0 0,.slice none 0 0,.slice none 0 0,.slice none 0 0,.int .i64 0,.int .i64 0,.int .i64 0] 47))
 obtain⟨od,hod⟩:∃od,decide (OkD room [])=od:=⟨_,rfl⟩
 have DO:=zh (fun u=>show Calls Tryz.prog 25 #[.agg #[.int .i64 room,.slice none 0 0]] u (fun e w'=>e= .returned (.bool od)∧Below u.heap.size u w') from by have:=sDiskOk u (noF room) (rdD_no u room) (by simp[noF,sumZ]);rw[show decide (OkD (noF room).room (noF room).ps)=od from hod] at this;exact this)
 have BO:=zh (fun u=>show Calls Tryz.prog 27 #[.agg #[.slice none 0 0,.slice none 0 0,.slice none 0 0,.slice none 0 0,.slice none 0 0,.int .i64 0]] u (fun e w'=>e= .returned (.bool vb)∧Below u.heap.size u w') from SBooksOkV13.sBooksOkV u noI vb (rdV_no u) hb)
 have SO:=zh (fun u=>show Calls Tryz.prog 28 #[.int .i64 0] u (fun e w'=>e= .returned (.bool true)∧w'=u) from SSg16.sSegOk u 0 true rfl)
 have V:=zh (show v=(od&&vb) from by
  have A:v=true↔(od=true∧vb=true):=by
   rw[show v=true↔OkE true room [] ⟨[],[],[],[],[],0⟩ 0 0 from hv,←hod,show vb=true↔Ok ⟨[],[],[],[],[],0⟩ from hb]
   constructor
   ·rintro⟨h0,h1,_⟩
    exact⟨decide_eq_true h0,(h1 rfl).1⟩
   ·rintro⟨h0,h1⟩
    exact⟨of_decide_eq_true h0,fun _=>⟨h1,rfl,by omega,by omega⟩,fun h=>by simp at h⟩
  revert A;cases v<;>cases od<;>cases vb<;>simp)
 clear hod hb hv
 obtain⟨c0,c1,c2,c3,c4,c5,c6,c7,c8,c9,c10⟩:=(zu KW).cs
 go_enter Tryz.func9,Tryz.ntmps9
 go_wp2_with fail
 generalize w.alloc (.cells #[.bool true,.int .i64 room,.slice none 0 0,.slice none 0 0,.slice none 0 0,.slice none 0 0,.slice none 0 0,.slice none 0 0,.int .i64 0,.int .i64 0,.int .i64 0] 47)=W at *
 refine((zu DO) W).mono ?_
 rintro e u ⟨rfl,b1⟩
 have KU:=zh ((zu KW).below b1 (zu KW).lt.2)
 have BU:=zh ((zu BW).trans (b1.mono (zu BW).size))
 clear b1 KW BW DO
 clear c0 c1 c2 c3 c4 c5 c6 c7 c8 c9 c10
 cases od
 ·go_wp2
  go_ret
  exact⟨by rw[zu V];rfl,zu BU⟩
 obtain⟨c0,c1,c2,c3,c4,c5,c6,c7,c8,c9,c10⟩:=(zu KU).cs
 go_wp2_with fail
 refine((zu BO) _).mono ?_
 rintro e u2 ⟨rfl,b2⟩
 have K2:=zh ((zu KU).below b2 (zu KU).lt.2)
 have B2:=zh ((zu BU).trans (b2.mono (zu BU).size))
 clear b2 KU BU BO
 clear c0 c1 c2 c3 c4 c5 c6 c7 c8 c9 c10
 cases vb
 ·go_wp2
  go_ret
  exact⟨by rw[zu V];rfl,zu B2⟩
 obtain⟨c0,c1,c2,c3,c4,c5,c6,c7,c8,c9,c10⟩:=(zu K2).cs
 go_wp2_with fail
 refine((zu SO) _).mono ?_
 rintro e u3 ⟨rfl,rfl⟩
 go_wp2_with fail
 refine(sInB _ 0 0 6 true rfl).mono ?_
 rintro e u3 ⟨rfl,rfl⟩
 go_wp2
 go_ret
 exact⟨by rw[zu V];rfl,zu B2⟩
theorem sEngineNew(w:World)(room:Int)(vb v:Bool)(hb:Says vb (Ok ⟨[],[],[],[],[],0⟩))(hv:Says v (OkE true room [] ⟨[],[],[],[],[],0⟩ 0 0)):
  Calls Tryz.prog 13 #[.int .i64 room] w (ToldE1 (newE v room) w):=by
 have EO:=zh (fun u=>sOkN u room vb v hb hv)
 have KZ:=zh (Bx11.made (w:=w) (base:=w.heap.size) (g:=w.heap.size) (.bool false) (.int .i64 0) (.slice none 0 0) (.slice none 0 0) (.slice none 0 0) (.slice none 0 0) (.slice none 0 0) (.slice none 0 0) (.int .i64 0) (.int .i64 0) (.int .i64 0) (Nat.le_refl _) rfl)
 have B0:=zh (one_more w (.cells #[.bool false,.int .i64 0,.slice none 0 0,.slice none 0 0,.slice none 0 0,.slice none 0 0,.slice none 0 0,.slice none 0 0,.int .i64 0,.int .i64 0,.int .i64 0] 47))
 clear hb hv
 go_enter Tryz.func13,Tryz.ntmps13
 go_wp2_with fail
 have be:=one_more (w.alloc (.cells #[.bool false,.int .i64 0,.slice none 0 0,.slice none 0 0,.slice none 0 0,.slice none 0 0,.slice none 0 0,.slice none 0 0,.int .i64 0,.int .i64 0,.int .i64 0] 47)) (.cells #[.bool true,.int .i64 room,.slice none 0 0,.slice none 0 0,.slice none 0 0,.slice none 0 0,.slice none 0 0,.slice none 0 0,.int .i64 0,.int .i64 0,.int .i64 0] 47)
 have K1:=zh ((zu KZ).below be (zu KZ).lt.2)
 have BE:=zh ((zu B0).trans (be.mono (zu B0).size))
 have E1:=zh (Bx11.made (w:=w.alloc (.cells #[.bool false,.int .i64 0,.slice none 0 0,.slice none 0 0,.slice none 0 0,.slice none 0 0,.slice none 0 0,.slice none 0 0,.int .i64 0,.int .i64 0,.int .i64 0] 47)) (base:=w.heap.size+1) (g:=w.heap.size+1) (.bool true) (.int .i64 room) (.slice none 0 0) (.slice none 0 0) (.slice none 0 0) (.slice none 0 0) (.slice none 0 0) (.slice none 0 0) (.int .i64 0) (.int .i64 0) (.int .i64 0) (by simp) (by simp))
 clear be KZ B0
 generalize (w.alloc (.cells #[.bool false,.int .i64 0,.slice none 0 0,.slice none 0 0,.slice none 0 0,.slice none 0 0,.slice none 0 0,.slice none 0 0,.int .i64 0,.int .i64 0,.int .i64 0] 47)).alloc (.cells #[.bool true,.int .i64 room,.slice none 0 0,.slice none 0 0,.slice none 0 0,.slice none 0 0,.slice none 0 0,.slice none 0 0,.int .i64 0,.int .i64 0,.int .i64 0] 47)=W at *
 obtain⟨c0,c1,c2,c3,c4,c5,c6,c7,c8,c9,c10⟩:=(zu E1).cs
 go_wp2_with fail
 refine((zu EO) _).mono ?_
 rintro e u ⟨rfl,b1⟩
 have K2:=zh ((zu K1).below b1 (zu K1).lt.2)
 have E2:=zh ((zu E1).below b1 (zu E1).lt.2)
 have B2:=zh ((zu BE).trans (b1.mono (zu BE).size))
 clear b1 K1 E1 BE EO
 clear c0 c1 c2 c3 c4 c5 c6 c7 c8 c9 c10
 cases v with
 |false=>
  obtain⟨U,hU⟩:∃U,(((((((((((u).setCell ⟨w.heap.size,0,none⟩ (.bool false)).setCell ⟨w.heap.size,1,none⟩ (.int .i64 0)).setCell ⟨w.heap.size,2,none⟩ (.slice none 0 0)).setCell ⟨w.heap.size,3,none⟩ (.slice none 0 0)).setCell ⟨w.heap.size,4,none⟩ (.slice none 0 0)).setCell ⟨w.heap.size,5,none⟩ (.slice none 0 0)).setCell ⟨w.heap.size,6,none⟩ (.slice none 0 0)).setCell ⟨w.heap.size,7,none⟩ (.slice none 0 0)).setCell ⟨w.heap.size,8,none⟩ (.int .i64 0)).setCell ⟨w.heap.size,9,none⟩ (.int .i64 0)).setCell ⟨w.heap.size,10,none⟩ (.int .i64 0)=U:=⟨_,rfl⟩
  have EN:=zh (show Below w.heap.size w U∧Bx11 U w.heap.size (w.heap.size) (.bool false) (.int .i64 0) (.slice none 0 0) (.slice none 0 0) (.slice none 0 0) (.slice none 0 0) (.slice none 0 0) (.slice none 0 0) (.int .i64 0) (.int .i64 0) (.int .i64 0)∧OwD U w.heap.size noD∧OwV U w.heap.size noI∧u.grownBy U (some (w.heap.size)) from by subst hU;exact ended17 (w:=w) (x:=noD) (y:=noI) false 0 0 (zu B2) (zu K2) (ownD_no _ (w.heap.size+1)) (ownV_no _ _) (by omega))
  replace hU:=zh hU
  obtain⟨f0,f1,f2,f3,f4,f5,f6,f7,f8,f9,f10⟩:=(zu K2).fs
  obtain⟨b0,b1,b2,b3,b4,b5,b6,b7,b8,b9,b10⟩:=(zu K2).cs
  go_wp2
  clear f0 b0 f1 b1 f2 b2 f3 b3 f4 b4 f5 b5 f6 b6 f7 b7 f8 b8 f9 b9 f10 b10
  rw[zu hU]
  clear hU
  have r0:=(zu EN).2.1
  obtain⟨q0,q1,q2,q3,q4,q5,q6,q7,q8,q9,q10⟩:=r0.cs
  refine bodyPost_ret (v:= .agg #[.bool false,.int .i64 0,.slice none 0 0,.slice none 0 0,.slice none 0 0,.slice none 0 0,.slice none 0 0,.slice none 0 0,.int .i64 0,.int .i64 0,.int .i64 0]) (by simp[results,Tryz.results13,go_sem,q0,q1,q2,q3,q4,q5,q6,q7,q8,q9,q10]) rfl ?_
  exact⟨noD,noI,rfl,rfl,rfl,(zu EN).2.2.1,(zu EN).2.2.2.1,(zu EN).1⟩
 |true=>
 obtain⟨c0,c1,c2,c3,c4,c5,c6,c7,c8,c9,c10⟩:=(zu E2).cs
 obtain⟨U,hU⟩:∃U,(((((((((((u).setCell ⟨w.heap.size,0,none⟩ (.bool true)).setCell ⟨w.heap.size,1,none⟩ (.int .i64 room)).setCell ⟨w.heap.size,2,none⟩ (.slice none 0 0)).setCell ⟨w.heap.size,3,none⟩ (.slice none 0 0)).setCell ⟨w.heap.size,4,none⟩ (.slice none 0 0)).setCell ⟨w.heap.size,5,none⟩ (.slice none 0 0)).setCell ⟨w.heap.size,6,none⟩ (.slice none 0 0)).setCell ⟨w.heap.size,7,none⟩ (.slice none 0 0)).setCell ⟨w.heap.size,8,none⟩ (.int .i64 0)).setCell ⟨w.heap.size,9,none⟩ (.int .i64 0)).setCell ⟨w.heap.size,10,none⟩ (.int .i64 0)=U:=⟨_,rfl⟩
 have EN:=zh (show Below w.heap.size w U∧Bx11 U w.heap.size (w.heap.size) (.bool true) (.int .i64 room) (.slice none 0 0) (.slice none 0 0) (.slice none 0 0) (.slice none 0 0) (.slice none 0 0) (.slice none 0 0) (.int .i64 0) (.int .i64 0) (.int .i64 0)∧OwD U w.heap.size (noF room)∧OwV U w.heap.size noI∧u.grownBy U (some (w.heap.size)) from by subst hU;exact ended17 (w:=w) (x:=(noF room)) (y:=noI) true 0 0 (zu B2) (zu K2) (show OwD u (w.heap.size+1) (noF room) from⟨rfl,.inl ⟨rfl,rfl⟩⟩) (ownV_no _ _) (by omega))
 replace hU:=zh hU
 obtain⟨f0,f1,f2,f3,f4,f5,f6,f7,f8,f9,f10⟩:=(zu K2).fs
 obtain⟨b0,b1,b2,b3,b4,b5,b6,b7,b8,b9,b10⟩:=(zu K2).cs
 go_wp2
 clear f0 b0 f1 b1 f2 b2 f3 b3 f4 b4 f5 b5 f6 b6 f7 b7 f8 b8 f9 b9 f10 b10
 clear c0 c1 c2 c3 c4 c5 c6 c7 c8 c9 c10
 rw[zu hU]
 clear hU
 have r0:=(zu EN).2.1
 obtain⟨q0,q1,q2,q3,q4,q5,q6,q7,q8,q9,q10⟩:=r0.cs
 refine bodyPost_ret (v:= .agg #[.bool true,.int .i64 room,.slice none 0 0,.slice none 0 0,.slice none 0 0,.slice none 0 0,.slice none 0 0,.slice none 0 0,.int .i64 0,.int .i64 0,.int .i64 0]) (by simp[results,Tryz.results13,go_sem,q0,q1,q2,q3,q4,q5,q6,q7,q8,q9,q10]) rfl ?_
 exact⟨(noF room),noI,rfl,rfl,rfl,(zu EN).2.2.1,(zu EN).2.2.2.1,(zu EN).1⟩
end SEngNw17
namespace SEngCr17
open Fil14 OpensF14 DiskH14 DkH14 SDk14 SOk14 SCom14 Law14 EBx17 EFin17 SEngOk17 LawW16 BMemV13 VB13 CrE17
open BMem (Bx Rd Ow)
open Bks (Bk Ok)
open BHelp (Ix)
open Lots (Says)
open SCrash14 (crashD)
theorem sDown(w:World)(up:Bool)(x:Dx)(z:Bx)(sg ct:Int)(xd:Dx)(keep:Int)(hr:RdD w x)(hy:Rd w z)(hd:RdD w xd)(hz:sumZ xd.ps≤1048576):
  Calls Tryz.prog 54 #[.agg #[.bool up,.int .i64 x.room,.slice x.a x.ps.length x.c,.slice (some ⟨z.ga,0,none⟩) z.b.ac.length z.ca,.slice (some ⟨z.gi,0,none⟩) z.b.ic.length z.ci,.slice (some ⟨z.gb,0,none⟩) z.b.bs.length z.cb,.slice (some ⟨z.gl,0,none⟩) z.b.ls.length z.cl,.slice (some ⟨z.gt,0,none⟩) z.b.ts.length z.ct,.int .i64 z.b.lot,.int .i64 sg,.int .i64 ct],.agg #[.int .i64 xd.room,.slice xd.a xd.ps.length xd.c],.int .i64 keep] w (ToldE (downE up x.room x.ps z.b sg ct (xd.room,xd.ps) keep) w):=by
 have GW:=zh (((Eg.made hr hy (Below.refl _ _) up sg ct).step (one_more _ (.cells #[.int .i64 xd.room,.slice xd.a xd.ps.length xd.c] 38))).step (one_more _ (.cells #[.bool false,.int .i64 0,.slice none 0 0,.slice none 0 0,.slice none 0 0,.slice none 0 0,.slice none 0 0,.slice none 0 0,.int .i64 0,.int .i64 0,.int .i64 0] 47)))
 have KW:=zh (Bx11.made (w:=(w.alloc (.cells #[.bool up,.int .i64 x.room,.slice x.a x.ps.length x.c,.slice (some ⟨z.ga,0,none⟩) z.b.ac.length z.ca,.slice (some ⟨z.gi,0,none⟩) z.b.ic.length z.ci,.slice (some ⟨z.gb,0,none⟩) z.b.bs.length z.cb,.slice (some ⟨z.gl,0,none⟩) z.b.ls.length z.cl,.slice (some ⟨z.gt,0,none⟩) z.b.ts.length z.ct,.int .i64 z.b.lot,.int .i64 sg,.int .i64 ct] 47)).alloc (.cells #[.int .i64 xd.room,.slice xd.a xd.ps.length xd.c] 38)) (base:=w.heap.size) (g:=w.heap.size+1+1) (.bool false) (.int .i64 0) (.slice none 0 0) (.slice none 0 0) (.slice none 0 0) (.slice none 0 0) (.slice none 0 0) (.slice none 0 0) (.int .i64 0) (.int .i64 0) (.int .i64 0) (by simp;omega) (by simp))
 have KD:=zh (show Kd (((w.alloc (.cells #[.bool up,.int .i64 x.room,.slice x.a x.ps.length x.c,.slice (some ⟨z.ga,0,none⟩) z.b.ac.length z.ca,.slice (some ⟨z.gi,0,none⟩) z.b.ic.length z.ci,.slice (some ⟨z.gb,0,none⟩) z.b.bs.length z.cb,.slice (some ⟨z.gl,0,none⟩) z.b.ls.length z.cl,.slice (some ⟨z.gt,0,none⟩) z.b.ts.length z.ct,.int .i64 z.b.lot,.int .i64 sg,.int .i64 ct] 47)).alloc (.cells #[.int .i64 xd.room,.slice xd.a xd.ps.length xd.c] 38)).alloc (.cells #[.bool false,.int .i64 0,.slice none 0 0,.slice none 0 0,.slice none 0 0,.slice none 0 0,.slice none 0 0,.slice none 0 0,.int .i64 0,.int .i64 0,.int .i64 0] 47)) (w.heap.size+1) xd from by have:=kd_low (Kd.made (w.alloc (.cells #[.bool up,.int .i64 x.room,.slice x.a x.ps.length x.c,.slice (some ⟨z.ga,0,none⟩) z.b.ac.length z.ca,.slice (some ⟨z.gi,0,none⟩) z.b.ic.length z.ci,.slice (some ⟨z.gb,0,none⟩) z.b.bs.length z.cb,.slice (some ⟨z.gl,0,none⟩) z.b.ls.length z.cl,.slice (some ⟨z.gt,0,none⟩) z.b.ts.length z.ct,.int .i64 z.b.lot,.int .i64 sg,.int .i64 ct] 47)) xd 38) (one_more ((w.alloc (.cells #[.bool up,.int .i64 x.room,.slice x.a x.ps.length x.c,.slice (some ⟨z.ga,0,none⟩) z.b.ac.length z.ca,.slice (some ⟨z.gi,0,none⟩) z.b.ic.length z.ci,.slice (some ⟨z.gb,0,none⟩) z.b.bs.length z.cb,.slice (some ⟨z.gl,0,none⟩) z.b.ls.length z.cl,.slice (some ⟨z.gt,0,none⟩) z.b.ts.length z.ct,.int .i64 z.b.lot,.int .i64 sg,.int .i64 ct] 47)).alloc (.cells #[.int .i64 xd.room,.slice xd.a xd.ps.length xd.c] 38)) (.cells #[.bool false,.int .i64 0,.slice none 0 0,.slice none 0 0,.slice none 0 0,.slice none 0 0,.slice none 0 0,.slice none 0 0,.int .i64 0,.int .i64 0,.int .i64 0] 47)) (by simp);simpa using this)
 have RD:=zh (hd.below (zu GW).b)
 have CR:=zh (fun u (h:RdD u xd)=>SCrash14.sDiskCrash u xd keep h hz)
 have ws:(((w.alloc (.cells #[.bool up,.int .i64 x.room,.slice x.a x.ps.length x.c,.slice (some ⟨z.ga,0,none⟩) z.b.ac.length z.ca,.slice (some ⟨z.gi,0,none⟩) z.b.ic.length z.ci,.slice (some ⟨z.gb,0,none⟩) z.b.bs.length z.cb,.slice (some ⟨z.gl,0,none⟩) z.b.ls.length z.cl,.slice (some ⟨z.gt,0,none⟩) z.b.ts.length z.ct,.int .i64 z.b.lot,.int .i64 sg,.int .i64 ct] 47)).alloc (.cells #[.int .i64 xd.room,.slice xd.a xd.ps.length xd.c] 38)).alloc (.cells #[.bool false,.int .i64 0,.slice none 0 0,.slice none 0 0,.slice none 0 0,.slice none 0 0,.slice none 0 0,.slice none 0 0,.int .i64 0,.int .i64 0,.int .i64 0] 47)).heap.size=w.heap.size+3:=by simp
 have RE:=zh (show downE up x.room x.ps z.b sg ct (xd.room,xd.ps) keep=if up=true then((false,crashD xd.room xd.ps keep,⟨[],[],[],[],[],0⟩,0,0),0) else((up,(x.room,x.ps),z.b,sg,ct),2) from rfl)
 generalize downE up x.room x.ps z.b sg ct (xd.room,xd.ps) keep=rr at *
 generalize crashD xd.room xd.ps keep=cc at *
 clear hr hy hd hz
 cases up with
 |false=>
  obtain⟨c0,c1,c2,c3,c4,c5,c6,c7,c8,c9,c10⟩:=(zu GW).k.cs
  have lt:=(zu GW).k.lt.2
  go_enter Tryz.func54,Tryz.ntmps54
  go_wp2_with fail
  generalize ((w.alloc (.cells #[.bool false,.int .i64 x.room,.slice x.a x.ps.length x.c,.slice (some ⟨z.ga,0,none⟩) z.b.ac.length z.ca,.slice (some ⟨z.gi,0,none⟩) z.b.ic.length z.ci,.slice (some ⟨z.gb,0,none⟩) z.b.bs.length z.cb,.slice (some ⟨z.gl,0,none⟩) z.b.ls.length z.cl,.slice (some ⟨z.gt,0,none⟩) z.b.ts.length z.ct,.int .i64 z.b.lot,.int .i64 sg,.int .i64 ct] 47)).alloc (.cells #[.int .i64 xd.room,.slice xd.a xd.ps.length xd.c] 38)).alloc (.cells #[.bool false,.int .i64 0,.slice none 0 0,.slice none 0 0,.slice none 0 0,.slice none 0 0,.slice none 0 0,.slice none 0 0,.int .i64 0,.int .i64 0,.int .i64 0] 47)=W at *
  have E:=zh (show rr=((false,(x.room,x.ps),z.b,sg,ct),2) by rw[zu RE,if_neg (show ¬(false=true) by simp)])
  clear RE CR KD RD
  refine(SEngCp17.sCopyE _ false x z sg ct (zu GW).r (zu GW).rb).mono ?_
  rintro e u9 ⟨x1,y1,hx1,hy1,rfl,ox,oy,b9⟩
  have G9:=zh ((zu GW).step b9)
  have K9:=zh ((zu KW).below b9 (zu KW).lt.2)
  have OX:=zh ox
  have OY:=zh oy
  have HX:=zh hx1
  have HYY:=zh hy1
  have lk:=(zu KW).lt.2
  clear b9 ox oy hx1 hy1
  clear c0 c1 c2 c3 c4 c5 c6 c7 c8 c9 c10 lt
  obtain⟨U,hU⟩:∃U,(((((((((((u9).setCell ⟨w.heap.size+1+1,0,none⟩ (.bool false)).setCell ⟨w.heap.size+1+1,1,none⟩ (.int .i64 x1.room)).setCell ⟨w.heap.size+1+1,2,none⟩ (.slice x1.a x1.ps.length x1.c)).setCell ⟨w.heap.size+1+1,3,none⟩ (.slice y1.aa y1.b.ac.length y1.ca)).setCell ⟨w.heap.size+1+1,4,none⟩ (.slice y1.ai y1.b.ic.length y1.ci)).setCell ⟨w.heap.size+1+1,5,none⟩ (.slice y1.ab y1.b.bs.length y1.cb)).setCell ⟨w.heap.size+1+1,6,none⟩ (.slice y1.al y1.b.ls.length y1.cl)).setCell ⟨w.heap.size+1+1,7,none⟩ (.slice y1.ats y1.b.ts.length y1.ct)).setCell ⟨w.heap.size+1+1,8,none⟩ (.int .i64 y1.b.lot)).setCell ⟨w.heap.size+1+1,9,none⟩ (.int .i64 sg)).setCell ⟨w.heap.size+1+1,10,none⟩ (.int .i64 ct)=U:=⟨_,rfl⟩
  have EN:=zh (show Below w.heap.size w U∧Bx11 U w.heap.size (w.heap.size+1+1) (.bool false) (.int .i64 x1.room) (.slice x1.a x1.ps.length x1.c) (.slice y1.aa y1.b.ac.length y1.ca) (.slice y1.ai y1.b.ic.length y1.ci) (.slice y1.ab y1.b.bs.length y1.cb) (.slice y1.al y1.b.ls.length y1.cl) (.slice y1.ats y1.b.ts.length y1.ct) (.int .i64 y1.b.lot) (.int .i64 sg) (.int .i64 ct)∧OwD U w.heap.size x1∧OwV U w.heap.size y1∧u9.grownBy U (some (w.heap.size+1+1)) from by subst hU;exact ended17 (w:=w) (x:=x1) (y:=y1) false sg ct (zu G9).b (zu K9) (zu OX) (zu OY) (by omega))
  replace hU:=zh hU
  obtain⟨f0,f1,f2,f3,f4,f5,f6,f7,f8,f9,f10⟩:=(zu K9).fs
  obtain⟨b0,b1,b2,b3,b4,b5,b6,b7,b8,b9,b10⟩:=(zu K9).cs
  go_wp2
  clear f0 b0 f1 b1 f2 b2 f3 b3 f4 b4 f5 b5 f6 b6 f7 b7 f8 b8 f9 b9 f10 b10
  rw[zu hU]
  clear hU
  have r0:=(zu EN).2.1
  obtain⟨q0,q1,q2,q3,q4,q5,q6,q7,q8,q9,q10⟩:=r0.cs
  refine bodyPost_ret (v:= .tuple #[.agg #[.bool false,.int .i64 x1.room,.slice x1.a x1.ps.length x1.c,.slice y1.aa y1.b.ac.length y1.ca,.slice y1.ai y1.b.ic.length y1.ci,.slice y1.ab y1.b.bs.length y1.cb,.slice y1.al y1.b.ls.length y1.cl,.slice y1.ats y1.b.ts.length y1.ct,.int .i64 y1.b.lot,.int .i64 sg,.int .i64 ct],.int .i64 2]) (by simp[results,Tryz.results54,go_sem,q0,q1,q2,q3,q4,q5,q6,q7,q8,q9,q10]) rfl ?_
  rw[zu E]
  exact⟨x1,y1,zu HX,zu HYY,rfl,(zu EN).2.2.1,(zu EN).2.2.2.1,(zu EN).1⟩
 |true=>
 have E:=zh (show rr=((false,cc,⟨[],[],[],[],[],0⟩,0,0),0) by rw[zu RE,if_pos (show true=true from rfl)])
 clear RE
 have d0:=(zu KD).c0
 have d1:=(zu KD).c1
 obtain⟨c0,c1,c2,c3,c4,c5,c6,c7,c8,c9,c10⟩:=(zu GW).k.cs
 have lt:=(zu GW).k.lt.2
 go_enter Tryz.func54,Tryz.ntmps54
 go_wp2_with fail
 generalize ((w.alloc (.cells #[.bool true,.int .i64 x.room,.slice x.a x.ps.length x.c,.slice (some ⟨z.ga,0,none⟩) z.b.ac.length z.ca,.slice (some ⟨z.gi,0,none⟩) z.b.ic.length z.ci,.slice (some ⟨z.gb,0,none⟩) z.b.bs.length z.cb,.slice (some ⟨z.gl,0,none⟩) z.b.ls.length z.cl,.slice (some ⟨z.gt,0,none⟩) z.b.ts.length z.ct,.int .i64 z.b.lot,.int .i64 sg,.int .i64 ct] 47)).alloc (.cells #[.int .i64 xd.room,.slice xd.a xd.ps.length xd.c] 38)).alloc (.cells #[.bool false,.int .i64 0,.slice none 0 0,.slice none 0 0,.slice none 0 0,.slice none 0 0,.slice none 0 0,.slice none 0 0,.int .i64 0,.int .i64 0,.int .i64 0] 47)=W at *
 clear c0 c1 c2 c3 c4 c5 c6 c7 c8 c9 c10 lt
 refine(zu CR _ (zu RD)).mono ?_
 rintro e u9 ⟨yc,hyc,rfl,oy,b9⟩
 have G9:=zh ((zu GW).step b9)
 have K9:=zh ((zu KW).below b9 (zu KW).lt.2)
 have OX:=zh oy
 have HX:=zh hyc
 have lk:=(zu KW).lt.2
 clear d0 d1 oy hyc b9 CR RD KD
 obtain⟨U,hU⟩:∃U,(((((((((((u9).setCell ⟨w.heap.size+1+1,0,none⟩ (.bool false)).setCell ⟨w.heap.size+1+1,1,none⟩ (.int .i64 yc.room)).setCell ⟨w.heap.size+1+1,2,none⟩ (.slice yc.a yc.ps.length yc.c)).setCell ⟨w.heap.size+1+1,3,none⟩ (.slice none 0 0)).setCell ⟨w.heap.size+1+1,4,none⟩ (.slice none 0 0)).setCell ⟨w.heap.size+1+1,5,none⟩ (.slice none 0 0)).setCell ⟨w.heap.size+1+1,6,none⟩ (.slice none 0 0)).setCell ⟨w.heap.size+1+1,7,none⟩ (.slice none 0 0)).setCell ⟨w.heap.size+1+1,8,none⟩ (.int .i64 0)).setCell ⟨w.heap.size+1+1,9,none⟩ (.int .i64 0)).setCell ⟨w.heap.size+1+1,10,none⟩ (.int .i64 0)=U:=⟨_,rfl⟩
 have EN:=zh (show Below w.heap.size w U∧Bx11 U w.heap.size (w.heap.size+1+1) (.bool false) (.int .i64 yc.room) (.slice yc.a yc.ps.length yc.c) (.slice none 0 0) (.slice none 0 0) (.slice none 0 0) (.slice none 0 0) (.slice none 0 0) (.int .i64 0) (.int .i64 0) (.int .i64 0)∧OwD U w.heap.size yc∧OwV U w.heap.size noI∧u9.grownBy U (some (w.heap.size+1+1)) from by subst hU;exact ended17 (w:=w) (x:=yc) (y:=noI) false 0 0 (zu G9).b (zu K9) (zu OX) (ownV_no _ _) (by omega))
 replace hU:=zh hU
 obtain⟨f0,f1,f2,f3,f4,f5,f6,f7,f8,f9,f10⟩:=(zu K9).fs
 obtain⟨b0,b1,b2,b3,b4,b5,b6,b7,b8,b9,b10⟩:=(zu K9).cs
 go_wp2
 clear f0 b0 f1 b1 f2 b2 f3 b3 f4 b4 f5 b5 f6 b6 f7 b7 f8 b8 f9 b9 f10 b10
 rw[zu hU]
 clear hU
 have r0:=(zu EN).2.1
 obtain⟨q0,q1,q2,q3,q4,q5,q6,q7,q8,q9,q10⟩:=r0.cs
 refine bodyPost_ret (v:= .tuple #[.agg #[.bool false,.int .i64 yc.room,.slice yc.a yc.ps.length yc.c,.slice none 0 0,.slice none 0 0,.slice none 0 0,.slice none 0 0,.slice none 0 0,.int .i64 0,.int .i64 0,.int .i64 0],.int .i64 0]) (by simp[results,Tryz.results54,go_sem,q0,q1,q2,q3,q4,q5,q6,q7,q8,q9,q10]) rfl ?_
 rw[zu E]
 exact⟨yc,noI,zu HX,rfl,rfl,(zu EN).2.2.1,(zu EN).2.2.2.1,(zu EN).1⟩
theorem sEngineCrash(w:World)(up:Bool)(x:Dx)(z:Bx)(sg ct:Int)(vb v:Bool)(keep:Int)(hr:RdD w x)(hz:sumZ x.ps≤1048576)(hy:Rd w z)(hb:Says vb (Ok z.b))(hv:Says v (OkE up x.room x.ps z.b sg ct)):
  Calls Tryz.prog 19 #[.agg #[.bool up,.int .i64 x.room,.slice x.a x.ps.length x.c,.slice (some ⟨z.ga,0,none⟩) z.b.ac.length z.ca,.slice (some ⟨z.gi,0,none⟩) z.b.ic.length z.ci,.slice (some ⟨z.gb,0,none⟩) z.b.bs.length z.cb,.slice (some ⟨z.gl,0,none⟩) z.b.ls.length z.cl,.slice (some ⟨z.gt,0,none⟩) z.b.ts.length z.ct,.int .i64 z.b.lot,.int .i64 sg,.int .i64 ct],.int .i64 keep] w (ToldE (crashE v up x.room x.ps z.b sg ct keep) w):=by
 have GW:=zh ((Eg.made hr hy (Below.refl _ _) up sg ct).step (one_more _ (.cells #[.bool false,.int .i64 0,.slice none 0 0,.slice none 0 0,.slice none 0 0,.slice none 0 0,.slice none 0 0,.slice none 0 0,.int .i64 0,.int .i64 0,.int .i64 0] 47)))
 have KW:=zh (Bx11.made (w:=w.alloc (.cells #[.bool up,.int .i64 x.room,.slice x.a x.ps.length x.c,.slice (some ⟨z.ga,0,none⟩) z.b.ac.length z.ca,.slice (some ⟨z.gi,0,none⟩) z.b.ic.length z.ci,.slice (some ⟨z.gb,0,none⟩) z.b.bs.length z.cb,.slice (some ⟨z.gl,0,none⟩) z.b.ls.length z.cl,.slice (some ⟨z.gt,0,none⟩) z.b.ts.length z.ct,.int .i64 z.b.lot,.int .i64 sg,.int .i64 ct] 47)) (base:=w.heap.size) (g:=w.heap.size+1) (.bool false) (.int .i64 0) (.slice none 0 0) (.slice none 0 0) (.slice none 0 0) (.slice none 0 0) (.slice none 0 0) (.slice none 0 0) (.int .i64 0) (.int .i64 0) (.int .i64 0) (by simp) (by simp))
 have ws:((w.alloc (.cells #[.bool up,.int .i64 x.room,.slice x.a x.ps.length x.c,.slice (some ⟨z.ga,0,none⟩) z.b.ac.length z.ca,.slice (some ⟨z.gi,0,none⟩) z.b.ic.length z.ci,.slice (some ⟨z.gb,0,none⟩) z.b.bs.length z.cb,.slice (some ⟨z.gl,0,none⟩) z.b.ls.length z.cl,.slice (some ⟨z.gt,0,none⟩) z.b.ts.length z.ct,.int .i64 z.b.lot,.int .i64 sg,.int .i64 ct] 47)).alloc (.cells #[.bool false,.int .i64 0,.slice none 0 0,.slice none 0 0,.slice none 0 0,.slice none 0 0,.slice none 0 0,.slice none 0 0,.int .i64 0,.int .i64 0,.int .i64 0] 47)).heap.size=w.heap.size+2:=by simp
 have EO:=zh (fun u (h:RdD u x) (k:Rd u z)=>sEngineOk u up x z sg ct vb v h hz k hb hv)
 have DN:=zh (fun u (h:RdD u x) (k:Rd u z)=>sDown u up x z sg ct x keep h k h hz)
 have RE:=zh (show crashE v up x.room x.ps z.b sg ct keep=if v=true then downE up x.room x.ps z.b sg ct (x.room,x.ps) keep else(noE,1) from rfl)
 generalize crashE v up x.room x.ps z.b sg ct keep=rr at *
 generalize downE up x.room x.ps z.b sg ct (x.room,x.ps) keep=dd at *
 clear hr hy hb hv hz
 obtain⟨c0,c1,c2,c3,c4,c5,c6,c7,c8,c9,c10⟩:=(zu GW).k.cs
 have lt:=(zu GW).k.lt.2
 go_enter Tryz.func19,Tryz.ntmps19
 go_wp2_with fail
 generalize (w.alloc (.cells #[.bool up,.int .i64 x.room,.slice x.a x.ps.length x.c,.slice (some ⟨z.ga,0,none⟩) z.b.ac.length z.ca,.slice (some ⟨z.gi,0,none⟩) z.b.ic.length z.ci,.slice (some ⟨z.gb,0,none⟩) z.b.bs.length z.cb,.slice (some ⟨z.gl,0,none⟩) z.b.ls.length z.cl,.slice (some ⟨z.gt,0,none⟩) z.b.ts.length z.ct,.int .i64 z.b.lot,.int .i64 sg,.int .i64 ct] 47)).alloc (.cells #[.bool false,.int .i64 0,.slice none 0 0,.slice none 0 0,.slice none 0 0,.slice none 0 0,.slice none 0 0,.slice none 0 0,.int .i64 0,.int .i64 0,.int .i64 0] 47)=W at *
 refine(zu EO _ (zu GW).r (zu GW).rb).mono ?_
 rintro e u ⟨rfl,b1⟩
 have G1:=zh ((zu GW).step b1)
 have K1:=zh ((zu KW).below b1 (zu KW).lt.2)
 have us:=b1.size
 rw[ws] at us
 clear b1 GW KW EO ws
 clear c0 c1 c2 c3 c4 c5 c6 c7 c8 c9 c10 lt
 cases v with
 |false=>
  have E:=zh (show rr=(noE,1) by rw[zu RE,if_neg (show ¬(false=true) by simp)])
  clear RE DN
  obtain⟨U,hU⟩:∃U,(((((((((((u).setCell ⟨w.heap.size+1,0,none⟩ (.bool false)).setCell ⟨w.heap.size+1,1,none⟩ (.int .i64 0)).setCell ⟨w.heap.size+1,2,none⟩ (.slice none 0 0)).setCell ⟨w.heap.size+1,3,none⟩ (.slice none 0 0)).setCell ⟨w.heap.size+1,4,none⟩ (.slice none 0 0)).setCell ⟨w.heap.size+1,5,none⟩ (.slice none 0 0)).setCell ⟨w.heap.size+1,6,none⟩ (.slice none 0 0)).setCell ⟨w.heap.size+1,7,none⟩ (.slice none 0 0)).setCell ⟨w.heap.size+1,8,none⟩ (.int .i64 0)).setCell ⟨w.heap.size+1,9,none⟩ (.int .i64 0)).setCell ⟨w.heap.size+1,10,none⟩ (.int .i64 0)=U:=⟨_,rfl⟩
  have EN:=zh (show Below w.heap.size w U∧Bx11 U w.heap.size (w.heap.size+1) (.bool false) (.int .i64 0) (.slice none 0 0) (.slice none 0 0) (.slice none 0 0) (.slice none 0 0) (.slice none 0 0) (.slice none 0 0) (.int .i64 0) (.int .i64 0) (.int .i64 0)∧OwD U w.heap.size noD∧OwV U w.heap.size noI∧u.grownBy U (some (w.heap.size+1)) from by subst hU;exact ended17 (w:=w) (x:=noD) (y:=noI) false 0 0 (zu G1).b (zu K1) (ownD_no _ (w.heap.size+2)) (ownV_no _ _) (by omega))
  replace hU:=zh hU
  obtain⟨f0,f1,f2,f3,f4,f5,f6,f7,f8,f9,f10⟩:=(zu K1).fs
  obtain⟨b0,b1,b2,b3,b4,b5,b6,b7,b8,b9,b10⟩:=(zu K1).cs
  go_wp2
  clear f0 b0 f1 b1 f2 b2 f3 b3 f4 b4 f5 b5 f6 b6 f7 b7 f8 b8 f9 b9 f10 b10
  rw[zu hU]
  clear hU
  have r0:=(zu EN).2.1
  obtain⟨q0,q1,q2,q3,q4,q5,q6,q7,q8,q9,q10⟩:=r0.cs
  refine bodyPost_ret (v:= .tuple #[.agg #[.bool false,.int .i64 0,.slice none 0 0,.slice none 0 0,.slice none 0 0,.slice none 0 0,.slice none 0 0,.slice none 0 0,.int .i64 0,.int .i64 0,.int .i64 0],.int .i64 1]) (by simp[results,Tryz.results19,go_sem,q0,q1,q2,q3,q4,q5,q6,q7,q8,q9,q10]) rfl ?_
  rw[zu E]
  exact⟨noD,noI,rfl,rfl,rfl,(zu EN).2.2.1,(zu EN).2.2.2.1,(zu EN).1⟩
 |true=>
 have E:=zh (show rr=dd by rw[zu RE,if_pos (show true=true from rfl)])
 clear RE
 obtain⟨c0,c1,c2,c3,c4,c5,c6,c7,c8,c9,c10⟩:=(zu G1).k.cs
 have lt:=(zu G1).k.lt.2
 go_wp2_with fail
 refine(zu DN _ (zu G1).r (zu G1).rb).mono ?_
 rintro e u9 ⟨x1,y1,hx1,hy1,rfl,ox,oy,b9⟩
 have G9:=zh ((zu G1).step b9)
 have K9:=zh ((zu K1).below b9 (zu K1).lt.2)
 have OX:=zh ox
 have OY:=zh oy
 have HX:=zh hx1
 have HYY:=zh hy1
 have lk:=(zu K1).lt.2
 clear b9 ox oy hx1 hy1
 clear c0 c1 c2 c3 c4 c5 c6 c7 c8 c9 c10 lt
 obtain⟨⟨ru,rd,rb,rs,rt⟩,rc⟩:=dd
 obtain⟨U,hU⟩:∃U,(((((((((((u9).setCell ⟨w.heap.size+1,0,none⟩ (.bool ru)).setCell ⟨w.heap.size+1,1,none⟩ (.int .i64 x1.room)).setCell ⟨w.heap.size+1,2,none⟩ (.slice x1.a x1.ps.length x1.c)).setCell ⟨w.heap.size+1,3,none⟩ (.slice y1.aa y1.b.ac.length y1.ca)).setCell ⟨w.heap.size+1,4,none⟩ (.slice y1.ai y1.b.ic.length y1.ci)).setCell ⟨w.heap.size+1,5,none⟩ (.slice y1.ab y1.b.bs.length y1.cb)).setCell ⟨w.heap.size+1,6,none⟩ (.slice y1.al y1.b.ls.length y1.cl)).setCell ⟨w.heap.size+1,7,none⟩ (.slice y1.ats y1.b.ts.length y1.ct)).setCell ⟨w.heap.size+1,8,none⟩ (.int .i64 y1.b.lot)).setCell ⟨w.heap.size+1,9,none⟩ (.int .i64 rs)).setCell ⟨w.heap.size+1,10,none⟩ (.int .i64 rt)=U:=⟨_,rfl⟩
 have EN:=zh (show Below w.heap.size w U∧Bx11 U w.heap.size (w.heap.size+1) (.bool ru) (.int .i64 x1.room) (.slice x1.a x1.ps.length x1.c) (.slice y1.aa y1.b.ac.length y1.ca) (.slice y1.ai y1.b.ic.length y1.ci) (.slice y1.ab y1.b.bs.length y1.cb) (.slice y1.al y1.b.ls.length y1.cl) (.slice y1.ats y1.b.ts.length y1.ct) (.int .i64 y1.b.lot) (.int .i64 rs) (.int .i64 rt)∧OwD U w.heap.size x1∧OwV U w.heap.size y1∧u9.grownBy U (some (w.heap.size+1)) from by subst hU;exact ended17 (w:=w) (x:=x1) (y:=y1) ru rs rt (zu G9).b (zu K9) (zu OX) (zu OY) (by omega))
 replace hU:=zh hU
 obtain⟨f0,f1,f2,f3,f4,f5,f6,f7,f8,f9,f10⟩:=(zu K9).fs
 obtain⟨b0,b1,b2,b3,b4,b5,b6,b7,b8,b9,b10⟩:=(zu K9).cs
 go_wp2
 clear f0 b0 f1 b1 f2 b2 f3 b3 f4 b4 f5 b5 f6 b6 f7 b7 f8 b8 f9 b9 f10 b10
 rw[zu hU]
 clear hU
 have r0:=(zu EN).2.1
 obtain⟨q0,q1,q2,q3,q4,q5,q6,q7,q8,q9,q10⟩:=r0.cs
 refine bodyPost_ret (v:= .tuple #[.agg #[.bool ru,.int .i64 x1.room,.slice x1.a x1.ps.length x1.c,.slice y1.aa y1.b.ac.length y1.ca,.slice y1.ai y1.b.ic.length y1.ci,.slice y1.ab y1.b.bs.length y1.cb,.slice y1.al y1.b.ls.length y1.cl,.slice y1.ats y1.b.ts.length y1.ct,.int .i64 y1.b.lot,.int .i64 rs,.int .i64 rt],.int .i64 rc]) (by simp[results,Tryz.results19,go_sem,q0,q1,q2,q3,q4,q5,q6,q7,q8,q9,q10]) rfl ?_
 rw[zu E]
 exact⟨x1,y1,zu HX,zu HYY,rfl,(zu EN).2.2.1,(zu EN).2.2.2.1,(zu EN).1⟩
end SEngCr17
end Go.Proofs.YtlbgfdpcgpijhaaGreat
