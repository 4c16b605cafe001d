/- Texts of one proof. -/
import Derived.Test.YtlbgfdpcgpijhaaGreatQB26
import Derived.Test.YtlbgfdpcgpijhaaGreatQB31
open Go.ChangeShapes Go.WideShapes Go.ChangeAt Go.RowKit
set_option linter.unusedVariables false
set_option linter.unusedSimpArgs false
set_option maxRecDepth 100000
set_option maxHeartbeats 32000000
namespace Go.Proofs.YtlbgfdpcgpijhaaGreat
namespace SSave16
open BMem Bks IBalsFit SNums13
open Lots (Says)
open SPack13 (packB sBooksPack)
open SPut11 (numB sPutNum wp_catB AtO)
open SSeal11 (sealB sSeal)
open SegP15 (okS)
open SSg16 (sSegOk)
open Conv15 (of_bytes)
noncomputable def bodyS (f:Int) (b:Bk):List Int:=numB f++packB b
noncomputable def saveD (f:Int) (b:Bk) (ok:Bool):ByteArray×Bool:=if ok=true∧okS f=true∧(bodyS f b).length≤9000 then(strOfNums (sealB (bodyS f b)),true) else(ByteArray.empty,false)
theorem numB_in{x:Int}(h:x≤9223372036854775807):∀y∈numB x,0≤y∧y≤255:=by
 unfold SPut11.numB
 split
 ·simp
 ·exact SPut11.numF_in 8 _ (by omega)
theorem pack_in(b:Bk):∀y∈packB b,0≤y∧y≤255:=by
 unfold SPack13.packB
 split
 ·rename_i ok
  unfold SPuts11.numsB
  split
  ·intro y hy
   rw[List.mem_flatMap] at hy
   obtain⟨x,hx,hy⟩:=hy
   have:=SPack13.nums_in ok.1 x hx
   unfold SPack13.Nm at this
   exact numB_in (by omega) y hy
  ·simp
 ·simp
theorem body_in{f:Int}(b:Bk):f≤9223372036854775807→∀i,i<(bodyS f b).length→0≤(bodyS f b).getD i 0∧(bodyS f b).getD i 0≤255:=by
 intro hf i hi
 have:(bodyS f b)[i]∈bodyS f b:=List.getElem_mem hi
 simp only[List.getD,List.getElem?_eq_getElem hi,Option.getD_some]
 generalize (bodyS f b)[i]=y at *
 unfold bodyS at this
 rcases List.mem_append.1 this with h|h
 ·exact numB_in hf y h
 ·exact pack_in b y h
theorem pack_len2(b:Bk):(packB b).length≤900000:=by
 unfold SPack13.packB
 split
 ·rename_i ok
  unfold SPuts11.numsB
  split
  ·have h:=SPuts11.flat_len (nums b) (SPack13.nums_get ok.1) (nums b).length (Nat.le_refl _)
   rw[List.take_length] at h
   have:=SPack13.nums_len ok.1
   omega
  ·simp
 ·simp
structure Sv(w W:World)(g:Nat)(f:Int)(x:Bx):Prop where
 f:W.cell? ⟨g,0,none⟩=some (.int .i64 f)
 c0:W.cell? ⟨g,1,none⟩=some (.slice (some ⟨x.ga,0,none⟩) x.b.ac.length x.ca)
 c1:W.cell? ⟨g,2,none⟩=some (.slice (some ⟨x.gi,0,none⟩) x.b.ic.length x.ci)
 c2:W.cell? ⟨g,3,none⟩=some (.slice (some ⟨x.gb,0,none⟩) x.b.bs.length x.cb)
 c3:W.cell? ⟨g,4,none⟩=some (.slice (some ⟨x.gl,0,none⟩) x.b.ls.length x.cl)
 c4:W.cell? ⟨g,5,none⟩=some (.slice (some ⟨x.gt,0,none⟩) x.b.ts.length x.ct)
 c5:W.cell? ⟨g,6,none⟩=some (.int .i64 x.b.lot)
 r:Rd W x
 b:Below w.heap.size w W
 lt:g<W.heap.size
theorem Sv.step{w W W':World}{g:Nat}{f:Int}{x:Bx}(h:Sv w W g f x)(k:Below W.heap.size W W'):Sv w W' g f x:=
 ⟨(k.cell (p:=⟨g,0,none⟩) h.lt).trans h.f,(k.cell (p:=⟨g,1,none⟩) h.lt).trans h.c0,(k.cell (p:=⟨g,2,none⟩) h.lt).trans h.c1,(k.cell (p:=⟨g,3,none⟩) h.lt).trans h.c2,(k.cell (p:=⟨g,4,none⟩) h.lt).trans h.c3,(k.cell (p:=⟨g,5,none⟩) h.lt).trans h.c4,(k.cell (p:=⟨g,6,none⟩) h.lt).trans h.c5,h.r.below k,h.b.trans (k.mono h.b.size),Nat.lt_of_lt_of_le h.lt k.size⟩
theorem Sv.made{w W:World}{x:Bx}(h:Rd W x)(b:Below w.heap.size w W)(f:Int)(e:TypeId):Sv w (W.alloc (.cells #[.int .i64 f,.slice (some ⟨x.ga,0,none⟩) x.b.ac.length x.ca,.slice (some ⟨x.gi,0,none⟩) x.b.ic.length x.ci,.slice (some ⟨x.gb,0,none⟩) x.b.bs.length x.cb,.slice (some ⟨x.gl,0,none⟩) x.b.ls.length x.cl,.slice (some ⟨x.gt,0,none⟩) x.b.ts.length x.ct,.int .i64 x.b.lot] e)) W.heap.size f x:=
 ⟨by simp,by simp,by simp,by simp,by simp,by simp,by simp,h.alloc _,b.alloc b.size _,by simp⟩
theorem sSavePack(w:World)(x:Bx)(f:Int)(b:Bool)(h:Rd w x)(hb:Says b (Ok x.b)):
  Calls Tryz.prog 122 #[.agg #[.int .i64 f,.slice (some ⟨x.ga,0,none⟩) x.b.ac.length x.ca,.slice (some ⟨x.gi,0,none⟩) x.b.ic.length x.ci,.slice (some ⟨x.gb,0,none⟩) x.b.bs.length x.cb,.slice (some ⟨x.gl,0,none⟩) x.b.ls.length x.cl,.slice (some ⟨x.gt,0,none⟩) x.b.ts.length x.ct,.int .i64 x.b.lot]] w fun e w'=>e= .returned (.tuple #[.string (saveD f x.b b).1,.bool (saveD f x.b b).2])∧Below w.heap.size w w':=by
 have S0:=zh (Sv.made h (Below.refl _ w) f 79)
 have PK:=zh (fun u h=>sBooksPack u x b h hb)
 have PL:=zh (pack_len2 x.b)
 have BI:=zh (body_in (f:=f) x.b)
 have RE:=zh (show saveD f x.b b=if b=true∧okS f=true∧(bodyS f x.b).length≤9000 then(strOfNums (sealB (bodyS f x.b)),true) else(ByteArray.empty,false) from rfl)
 have BE:=zh (show bodyS f x.b=numB f++packB x.b from rfl)
 generalize saveD f x.b b=rr at *
 generalize bodyS f x.b=bo at *
 generalize packB x.b=pk at *
 clear h hb
 have g0:=(zu S0).f
 have g1:=(zu S0).c0
 have g2:=(zu S0).c1
 have g3:=(zu S0).c2
 have g4:=(zu S0).c3
 have g5:=(zu S0).c4
 have g6:=(zu S0).c5
 go_enter Tryz.func122,Tryz.ntmps122
 go_wp2_with fail
 refine(zu PK _ (zu S0).r).mono ?_
 rintro e u ⟨gp,cp,rfl,op,bb⟩
 have S1:=zh ((zu S0).step bb)
 have OP:=zh op
 have us:=bb.size
 clear bb op g0 g1 g2 g3 g4 g5 g6 S0 PK
 cases b with
 |false=>
  have E:=zh (show rr=(ByteArray.empty,false) by rw[zu RE,if_neg (fun h=>by simp at h)])
  clear RE
  go_wp2
  go_ret2
  rw[zu E]
  exact⟨rfl,(zu S1).b⟩
 |true=>
  have g0:=(zu S1).f
  cases sk:okS f with
  |false=>
   have E:=zh (show rr=(ByteArray.empty,false) by rw[zu RE,if_neg (fun h=>by rw[sk] at h;simp at h)])
   have SK:=zh sk
   clear RE sk
   go_wp2_with fail
   refine(sSegOk _ f false (zu SK)).mono ?_
   rintro e u ⟨rfl,rfl⟩
   go_wp2
   go_ret2
   rw[zu E]
   exact⟨rfl,(zu S1).b⟩
  |true=>
   have SK:=zh sk
   have f19:0≤f∧f≤19:=of_decide_eq_true sk
   have RR:=zh (show rr=if bo.length≤9000 then(strOfNums (sealB bo),true) else(ByteArray.empty,false) by
    rw[zu RE]
    by_cases q:bo.length≤9000
    ·rw[if_pos ⟨rfl,sk,q⟩,if_pos q]
    ·rw[if_neg (fun h=>q h.2.2),if_neg q])
   clear RE sk
   go_wp2_with fail
   refine(sSegOk _ f true (zu SK)).mono ?_
   rintro e u ⟨rfl,rfl⟩
   have n9:=SPut11.numB_nine (x:=f) (by omega)
   have pl:=zu PL
   go_wp2_with fail
   refine(sPutNum _ f (by omega)).mono ?_
   rintro e u1 ⟨g1,c1,rfl,o1,b1⟩
   have S2:=zh ((zu S1).step b1)
   have O1:=zh (o1.mono (base':=w.heap.size) (by have:=(zu S1).b.size;omega))
   have OP1:=zh ((zu OP).below b1 (zu OP).lt.2)
   have lg:=o1.lt
   have gpl:=(zu OP).lt
   have us1:=b1.size
   have wl:=(zu S1).b.size
   clear o1 b1 g0 OP S1
   go_wp2_with (first|(at_builtin;refine wp_catB _ rfl _ _ rfl w.heap.size g1 (numB f).length c1 pk.length (numB f) pk gp 0 cp rfl rfl (zu O1) rfl (AtO.of (zu OP1).at) (by omega) (by omega) ?_)|go_in)
   intro g2 c2 w2 o2 gr2 loc2
   have B2:=zh ((zu S2).b.grown gr2 (by omega) (fun j hj=>by cases hj;omega))
   have us2:=gr2.size
   rw[←zu BE] at o2
   have L2:=zh (show(numB f).length+pk.length=bo.length by rw[zu BE];simp)
   have lb:=(zu L2)
   have SE:=zh (show Calls Tryz.prog 175 #[.slice (some ⟨g2,0,none⟩) ((numB f).length+pk.length) c2] w2 fun e w'=>∃g c,e= .returned (.tuple #[.slice (some ⟨g,0,none⟩) (sealB bo).length c,.bool (decide (bo.length≤9000))])∧ByteH.Own w' w2.heap.size g (sealB bo).length c (sealB bo)∧Below w2.heap.size w2 w' from by
    rw[zu L2]
    exact sSeal w2 g2 c2 bo (by omega) o2.lt.2 (fun i hi=>⟨o2.at i hi,(zu BI) (by omega) i hi⟩))
   have L9:=zh (show(sealB bo).length≤1048576∨True from .inr trivial)
   clear o2 gr2 loc2 lb
   generalize (numB f).length+pk.length=m at *
   clear n9 pl L9
   go_wp2_with fail
   refine(zu SE).mono ?_
   rintro e u3 ⟨g3,c3,rfl,o3,b3⟩
   have B3:=zh ((zu B2).trans (b3.mono (zu B2).size))
   have CB:=of_bytes u3 g3 c3 (sealB bo) o3.at
   clear o3 b3 SE
   by_cases q:bo.length≤9000
   ·have E:=zh (show rr=(strOfNums (sealB bo),true) by rw[zu RR,if_pos q])
    have qd:decide (bo.length≤9000)=true:=decide_eq_true q
    clear RR q
    generalize strOfNums (sealB bo)=st at *
    go_wp2
    go_ret2
    rw[zu E]
    exact⟨rfl,zu B3⟩
   ·have E:=zh (show rr=(ByteArray.empty,false) by rw[zu RR,if_neg q])
    have qd:decide (bo.length≤9000)=false:=decide_eq_false q
    clear RR q CB
    go_wp2
    go_ret2
    rw[zu E]
    exact⟨rfl,zu B3⟩
end SSave16
namespace EBx17
open Fil14 DkH14 SDk14
open BMem (Bx Rd)
open Bks (Bk Ok)
open Bx16 (grow_grow grow_low)
open IBalsFit (one_more)
def Bx11(w:World)(base g:Nat)(v0 v1 v2 v3 v4 v5 v6 v7 v8 v9 v10:Value):Prop:=w.ownsRow base 47 11 (.slice (some ⟨g,0,none⟩) 1 1) 1 [v0,v1,v2,v3,v4,v5,v6,v7,v8,v9,v10]
theorem Bx11.made{w:World}{base g:Nat}(v0 v1 v2 v3 v4 v5 v6 v7 v8 v9 v10:Value)(hb:base≤w.heap.size)(hg:g=w.heap.size):Bx11 (w.alloc (.cells #[v0,v1,v2,v3,v4,v5,v6,v7,v8,v9,v10] 47)) base g v0 v1 v2 v3 v4 v5 v6 v7 v8 v9 v10:=by
 subst hg
 exact⟨rfl,.inr ⟨w.heap.size,1,#[v0,v1,v2,v3,v4,v5,v6,v7,v8,v9,v10],rfl,hb,heap_alloc_new w _,Nat.le_refl _,by unfold maxLen;omega,rfl,rfl⟩⟩
section
variable {w w':World} {base g:Nat} {v0 v1 v2 v3 v4 v5 v6 v7 v8 v9 v10:Value}
theorem Bx11.lt(h:Bx11 w base g v0 v1 v2 v3 v4 v5 v6 v7 v8 v9 v10):base≤g∧g<w.heap.size:=World.ownsRow.lt h g rfl
theorem Bx11.free(h:Bx11 w base g v0 v1 v2 v3 v4 v5 v6 v7 v8 v9 v10)(i:Nat):w.frozen? ⟨g,i,none⟩=false:=World.ownsRow.frozenAt h i
theorem Bx11.c0(h:Bx11 w base g v0 v1 v2 v3 v4 v5 v6 v7 v8 v9 v10):w.cell? ⟨g,0,none⟩=some v0:=(World.ownsRow.cellAt h 0 (by omega)).trans rfl
theorem Bx11.c1(h:Bx11 w base g v0 v1 v2 v3 v4 v5 v6 v7 v8 v9 v10):w.cell? ⟨g,1,none⟩=some v1:=(World.ownsRow.cellAt h 1 (by omega)).trans rfl
theorem Bx11.c2(h:Bx11 w base g v0 v1 v2 v3 v4 v5 v6 v7 v8 v9 v10):w.cell? ⟨g,2,none⟩=some v2:=(World.ownsRow.cellAt h 2 (by omega)).trans rfl
theorem Bx11.c3(h:Bx11 w base g v0 v1 v2 v3 v4 v5 v6 v7 v8 v9 v10):w.cell? ⟨g,3,none⟩=some v3:=(World.ownsRow.cellAt h 3 (by omega)).trans rfl
theorem Bx11.c4(h:Bx11 w base g v0 v1 v2 v3 v4 v5 v6 v7 v8 v9 v10):w.cell? ⟨g,4,none⟩=some v4:=(World.ownsRow.cellAt h 4 (by omega)).trans rfl
theorem Bx11.c5(h:Bx11 w base g v0 v1 v2 v3 v4 v5 v6 v7 v8 v9 v10):w.cell? ⟨g,5,none⟩=some v5:=(World.ownsRow.cellAt h 5 (by omega)).trans rfl
theorem Bx11.c6(h:Bx11 w base g v0 v1 v2 v3 v4 v5 v6 v7 v8 v9 v10):w.cell? ⟨g,6,none⟩=some v6:=(World.ownsRow.cellAt h 6 (by omega)).trans rfl
theorem Bx11.c7(h:Bx11 w base g v0 v1 v2 v3 v4 v5 v6 v7 v8 v9 v10):w.cell? ⟨g,7,none⟩=some v7:=(World.ownsRow.cellAt h 7 (by omega)).trans rfl
theorem Bx11.c8(h:Bx11 w base g v0 v1 v2 v3 v4 v5 v6 v7 v8 v9 v10):w.cell? ⟨g,8,none⟩=some v8:=(World.ownsRow.cellAt h 8 (by omega)).trans rfl
theorem Bx11.c9(h:Bx11 w base g v0 v1 v2 v3 v4 v5 v6 v7 v8 v9 v10):w.cell? ⟨g,9,none⟩=some v9:=(World.ownsRow.cellAt h 9 (by omega)).trans rfl
theorem Bx11.c10(h:Bx11 w base g v0 v1 v2 v3 v4 v5 v6 v7 v8 v9 v10):w.cell? ⟨g,10,none⟩=some v10:=(World.ownsRow.cellAt h 10 (by omega)).trans rfl
theorem Bx11.cs{w:World}{base g:Nat}{v0 v1 v2 v3 v4 v5 v6 v7 v8 v9 v10:Value}(h:Bx11 w base g v0 v1 v2 v3 v4 v5 v6 v7 v8 v9 v10):w.cell? ⟨g,0,none⟩=some v0∧w.cell? ⟨g,1,none⟩=some v1∧w.cell? ⟨g,2,none⟩=some v2∧w.cell? ⟨g,3,none⟩=some v3∧w.cell? ⟨g,4,none⟩=some v4∧w.cell? ⟨g,5,none⟩=some v5∧w.cell? ⟨g,6,none⟩=some v6∧w.cell? ⟨g,7,none⟩=some v7∧w.cell? ⟨g,8,none⟩=some v8∧w.cell? ⟨g,9,none⟩=some v9∧w.cell? ⟨g,10,none⟩=some v10:=⟨h.c0,h.c1,h.c2,h.c3,h.c4,h.c5,h.c6,h.c7,h.c8,h.c9,h.c10⟩
theorem Bx11.fs{w:World}{base g:Nat}{v0 v1 v2 v3 v4 v5 v6 v7 v8 v9 v10:Value}(h:Bx11 w base g v0 v1 v2 v3 v4 v5 v6 v7 v8 v9 v10):w.frozen? ⟨g,0,none⟩=false∧w.frozen? ⟨g,1,none⟩=false∧w.frozen? ⟨g,2,none⟩=false∧w.frozen? ⟨g,3,none⟩=false∧w.frozen? ⟨g,4,none⟩=false∧w.frozen? ⟨g,5,none⟩=false∧w.frozen? ⟨g,6,none⟩=false∧w.frozen? ⟨g,7,none⟩=false∧w.frozen? ⟨g,8,none⟩=false∧w.frozen? ⟨g,9,none⟩=false∧w.frozen? ⟨g,10,none⟩=false:=⟨h.free 0,h.free 1,h.free 2,h.free 3,h.free 4,h.free 5,h.free 6,h.free 7,h.free 8,h.free 9,h.free 10⟩
theorem Bx11.set0(h:Bx11 w base g v0 v1 v2 v3 v4 v5 v6 v7 v8 v9 v10)(u:Value):Bx11 (w.setCell ⟨g,0,none⟩ u) base g u v1 v2 v3 v4 v5 v6 v7 v8 v9 v10∧w.grownBy (w.setCell ⟨g,0,none⟩ u) (some g):=World.ownsRow.stored h 0 u
theorem Bx11.set1(h:Bx11 w base g v0 v1 v2 v3 v4 v5 v6 v7 v8 v9 v10)(u:Value):Bx11 (w.setCell ⟨g,1,none⟩ u) base g v0 u v2 v3 v4 v5 v6 v7 v8 v9 v10∧w.grownBy (w.setCell ⟨g,1,none⟩ u) (some g):=World.ownsRow.stored h 1 u
theorem Bx11.set2(h:Bx11 w base g v0 v1 v2 v3 v4 v5 v6 v7 v8 v9 v10)(u:Value):Bx11 (w.setCell ⟨g,2,none⟩ u) base g v0 v1 u v3 v4 v5 v6 v7 v8 v9 v10∧w.grownBy (w.setCell ⟨g,2,none⟩ u) (some g):=World.ownsRow.stored h 2 u
theorem Bx11.set3(h:Bx11 w base g v0 v1 v2 v3 v4 v5 v6 v7 v8 v9 v10)(u:Value):Bx11 (w.setCell ⟨g,3,none⟩ u) base g v0 v1 v2 u v4 v5 v6 v7 v8 v9 v10∧w.grownBy (w.setCell ⟨g,3,none⟩ u) (some g):=World.ownsRow.stored h 3 u
theorem Bx11.set4(h:Bx11 w base g v0 v1 v2 v3 v4 v5 v6 v7 v8 v9 v10)(u:Value):Bx11 (w.setCell ⟨g,4,none⟩ u) base g v0 v1 v2 v3 u v5 v6 v7 v8 v9 v10∧w.grownBy (w.setCell ⟨g,4,none⟩ u) (some g):=World.ownsRow.stored h 4 u
theorem Bx11.set5(h:Bx11 w base g v0 v1 v2 v3 v4 v5 v6 v7 v8 v9 v10)(u:Value):Bx11 (w.setCell ⟨g,5,none⟩ u) base g v0 v1 v2 v3 v4 u v6 v7 v8 v9 v10∧w.grownBy (w.setCell ⟨g,5,none⟩ u) (some g):=World.ownsRow.stored h 5 u
theorem Bx11.set6(h:Bx11 w base g v0 v1 v2 v3 v4 v5 v6 v7 v8 v9 v10)(u:Value):Bx11 (w.setCell ⟨g,6,none⟩ u) base g v0 v1 v2 v3 v4 v5 u v7 v8 v9 v10∧w.grownBy (w.setCell ⟨g,6,none⟩ u) (some g):=World.ownsRow.stored h 6 u
theorem Bx11.set7(h:Bx11 w base g v0 v1 v2 v3 v4 v5 v6 v7 v8 v9 v10)(u:Value):Bx11 (w.setCell ⟨g,7,none⟩ u) base g v0 v1 v2 v3 v4 v5 v6 u v8 v9 v10∧w.grownBy (w.setCell ⟨g,7,none⟩ u) (some g):=World.ownsRow.stored h 7 u
theorem Bx11.set8(h:Bx11 w base g v0 v1 v2 v3 v4 v5 v6 v7 v8 v9 v10)(u:Value):Bx11 (w.setCell ⟨g,8,none⟩ u) base g v0 v1 v2 v3 v4 v5 v6 v7 u v9 v10∧w.grownBy (w.setCell ⟨g,8,none⟩ u) (some g):=World.ownsRow.stored h 8 u
theorem Bx11.set9(h:Bx11 w base g v0 v1 v2 v3 v4 v5 v6 v7 v8 v9 v10)(u:Value):Bx11 (w.setCell ⟨g,9,none⟩ u) base g v0 v1 v2 v3 v4 v5 v6 v7 v8 u v10∧w.grownBy (w.setCell ⟨g,9,none⟩ u) (some g):=World.ownsRow.stored h 9 u
theorem Bx11.set10(h:Bx11 w base g v0 v1 v2 v3 v4 v5 v6 v7 v8 v9 v10)(u:Value):Bx11 (w.setCell ⟨g,10,none⟩ u) base g v0 v1 v2 v3 v4 v5 v6 v7 v8 v9 u∧w.grownBy (w.setCell ⟨g,10,none⟩ u) (some g):=World.ownsRow.stored h 10 u
theorem Bx11.below{B:Nat}(h:Bx11 w base g v0 v1 v2 v3 v4 v5 v6 v7 v8 v9 v10)(k:Below B w w')(hg:g<B):Bx11 w' base g v0 v1 v2 v3 v4 v5 v6 v7 v8 v9 v10:=by
 refine⟨h.1,?_⟩
 rcases h.2 with⟨h1,_⟩|⟨g',c,cur,h1,h2,h3,h4⟩
 ·simp at h1
 ·have e:g=g':=by simp at h1;exact h1.1
  subst e
  exact .inr ⟨g,c,cur,h1,h2,(k.block g hg).trans h3,h4⟩
theorem Bx11.kept{row:Option Nat}(h:Bx11 w base g v0 v1 v2 v3 v4 v5 v6 v7 v8 v9 v10)(k:w.grownBy w' row)(hne:some g≠row):Bx11 w' base g v0 v1 v2 v3 v4 v5 v6 v7 v8 v9 v10:=World.ownsRow.kept h k (Or.inr hne)
theorem Bx11.all(h:Bx11 w base g v0 v1 v2 v3 v4 v5 v6 v7 v8 v9 v10)(u0 u1 u2 u3 u4 u5 u6 u7 u8 u9 u10:Value):Bx11 ((((((((((((w).setCell ⟨g,0,none⟩ u0).setCell ⟨g,1,none⟩ u1).setCell ⟨g,2,none⟩ u2).setCell ⟨g,3,none⟩ u3).setCell ⟨g,4,none⟩ u4).setCell ⟨g,5,none⟩ u5).setCell ⟨g,6,none⟩ u6).setCell ⟨g,7,none⟩ u7).setCell ⟨g,8,none⟩ u8).setCell ⟨g,9,none⟩ u9).setCell ⟨g,10,none⟩ u10) base g u0 u1 u2 u3 u4 u5 u6 u7 u8 u9 u10∧w.grownBy ((((((((((((w).setCell ⟨g,0,none⟩ u0).setCell ⟨g,1,none⟩ u1).setCell ⟨g,2,none⟩ u2).setCell ⟨g,3,none⟩ u3).setCell ⟨g,4,none⟩ u4).setCell ⟨g,5,none⟩ u5).setCell ⟨g,6,none⟩ u6).setCell ⟨g,7,none⟩ u7).setCell ⟨g,8,none⟩ u8).setCell ⟨g,9,none⟩ u9).setCell ⟨g,10,none⟩ u10) (some g):=by
 have t0:=h.set0 u0
 have t1:=t0.1.set1 u1
 have t2:=t1.1.set2 u2
 have t3:=t2.1.set3 u3
 have t4:=t3.1.set4 u4
 have t5:=t4.1.set5 u5
 have t6:=t5.1.set6 u6
 have t7:=t6.1.set7 u7
 have t8:=t7.1.set8 u8
 have t9:=t8.1.set9 u9
 have t10:=t9.1.set10 u10
 exact⟨t10.1,(grow_grow (grow_grow (grow_grow (grow_grow (grow_grow (grow_grow (grow_grow (grow_grow (grow_grow (grow_grow t0.2 t1.2) t2.2) t3.2) t4.2) t5.2) t6.2) t7.2) t8.2) t9.2) t10.2)⟩
end
structure Eg(w W:World)(g:Nat)(up:Bool)(x:Dx)(z:Bx)(sg ct:Int):Prop where
 k:Bx11 W w.heap.size g (.bool up) (.int .i64 x.room) (.slice x.a x.ps.length x.c) (.slice (some ⟨z.ga,0,none⟩) z.b.ac.length z.ca) (.slice (some ⟨z.gi,0,none⟩) z.b.ic.length z.ci) (.slice (some ⟨z.gb,0,none⟩) z.b.bs.length z.cb) (.slice (some ⟨z.gl,0,none⟩) z.b.ls.length z.cl) (.slice (some ⟨z.gt,0,none⟩) z.b.ts.length z.ct) (.int .i64 z.b.lot) (.int .i64 sg) (.int .i64 ct)
 r:RdD W x
 rb:Rd W z
 b:Below w.heap.size w W
theorem Eg.step{w W W':World}{g:Nat}{up:Bool}{x:Dx}{z:Bx}{sg ct:Int}(h:Eg w W g up x z sg ct)(k:Below W.heap.size W W'):Eg w W' g up x z sg ct:=⟨h.k.below k h.k.lt.2,h.r.below k,h.rb.below k,h.b.trans (k.mono h.b.size)⟩
theorem Eg.made{w W:World}{x:Dx}{z:Bx}(hr:RdD W x)(hz:Rd W z)(b:Below w.heap.size w W)(up:Bool)(sg ct:Int):Eg w (W.alloc (.cells #[.bool up,.int .i64 x.room,.slice x.a x.ps.length x.c,.slice (some ⟨z.ga,0,none⟩) z.b.ac.length z.ca,.slice (some ⟨z.gi,0,none⟩) z.b.ic.length z.ci,.slice (some ⟨z.gb,0,none⟩) z.b.bs.length z.cb,.slice (some ⟨z.gl,0,none⟩) z.b.ls.length z.cl,.slice (some ⟨z.gt,0,none⟩) z.b.ts.length z.ct,.int .i64 z.b.lot,.int .i64 sg,.int .i64 ct] 47)) W.heap.size up x z sg ct:=
 ⟨Bx11.made (.bool up) (.int .i64 x.room) (.slice x.a x.ps.length x.c) (.slice (some ⟨z.ga,0,none⟩) z.b.ac.length z.ca) (.slice (some ⟨z.gi,0,none⟩) z.b.ic.length z.ci) (.slice (some ⟨z.gb,0,none⟩) z.b.bs.length z.cb) (.slice (some ⟨z.gl,0,none⟩) z.b.ls.length z.cl) (.slice (some ⟨z.gt,0,none⟩) z.b.ts.length z.ct) (.int .i64 z.b.lot) (.int .i64 sg) (.int .i64 ct) b.size rfl,hr.below (one_more _ _),hz.alloc _,b.alloc b.size _⟩
theorem Eg.kept{w W W':World}{g G:Nat}{up:Bool}{x:Dx}{z:Bx}{sg ct:Int}(h:Eg w W g up x z sg ct)(k:W.grownBy W' (some G))(hg:g≠G)(hG:w.heap.size≤G)(hr:RdD w x)(hy:Rd w z):Eg w W' g up x z sg ct:=
 have b:=grow_low h.b k ⟨hG,h.b.size⟩
 ⟨h.k.kept k (by simpa using hg),hr.below b,hy.below b,b⟩
end EBx17
end Go.Proofs.YtlbgfdpcgpijhaaGreat
