/- Lemmas. -/
import Derived.Test.YtppkkmaoaiopaaaGreatQF17
import Derived.Test.YtppkkmaoaiopaaaGreatQF21
open Go.ChangeShapes Go.WideShapes Go.ChangeAt Go.RowKit
set_option linter.unusedVariables false
set_option linter.unusedSimpArgs false
set_option maxRecDepth 100000
set_option maxHeartbeats 32000000
namespace Go.Proofs.YtppkkmaoaiopaaaGreat
namespace SSave16
open BMem Bks IBalsFit SNums13
open Lots (Says)
open SPack13 (packB sBooksPack)
open SPut11 (numB sPutNum wp_catB AtO)
open SSeal11 (sealB sSeal)
open SegP15 (okS)
open SSg16 (sSegOk)
open Conv15 (of_bytes)
noncomputable def bodyS (f:Int) (b:Bk):List Int:=numB f++packB b
noncomputable def saveD (f:Int) (b:Bk) (ok:Bool):ByteArray×Bool:=if ok=true∧okS f=true∧(bodyS f b).length≤9000 then(strOfNums (sealB (bodyS f b)),true) else(ByteArray.empty,false)
theorem numB_in{x:Int}(h:x≤9223372036854775807):∀y∈numB x,0≤y∧y≤255:=by
 unfold SPut11.numB
 split
 ·simp
 ·exact SPut11.numF_in 8 _ (by omega)
theorem pack_in(b:Bk):∀y∈packB b,0≤y∧y≤255:=by
 unfold SPack13.packB
 split
 ·rename_i ok
  unfold SPuts11.numsB
  split
  ·intro y hy
   rw[List.mem_flatMap] at hy
   obtain⟨x,hx,hy⟩:=hy
   have:=SPack13.nums_in ok.1 x hx
   unfold SPack13.Nm at this
   exact numB_in (by omega) y hy
  ·simp
 ·simp
theorem body_in{f:Int}(b:Bk):f≤9223372036854775807→∀i,i<(bodyS f b).length→0≤(bodyS f b).getD i 0∧(bodyS f b).getD i 0≤255:=by
 intro hf i hi
 have:(bodyS f b)[i]∈bodyS f b:=List.getElem_mem hi
 simp only[List.getD,List.getElem?_eq_getElem hi,Option.getD_some]
 generalize (bodyS f b)[i]=y at *
 unfold bodyS at this
 rcases List.mem_append.1 this with h|h
 ·exact numB_in hf y h
 ·exact pack_in b y h
theorem pack_len2(b:Bk):(packB b).length≤900000:=by
 unfold SPack13.packB
 split
 ·rename_i ok
  unfold SPuts11.numsB
  split
  ·have h:=SPuts11.flat_len (nums b) (SPack13.nums_get ok.1) (nums b).length (Nat.le_refl _)
   rw[List.take_length] at h
   have:=SPack13.nums_len ok.1
   omega
  ·simp
 ·simp
structure Sv(w W:World)(g:Nat)(f:Int)(x:Bx):Prop where
 f:W.cell? ⟨g,0,none⟩=some (.int .i64 f)
 c0:W.cell? ⟨g,1,none⟩=some (.slice (some ⟨x.ga,0,none⟩) x.b.ac.length x.ca)
 c1:W.cell? ⟨g,2,none⟩=some (.slice (some ⟨x.gi,0,none⟩) x.b.ic.length x.ci)
 c2:W.cell? ⟨g,3,none⟩=some (.slice (some ⟨x.gb,0,none⟩) x.b.bs.length x.cb)
 c3:W.cell? ⟨g,4,none⟩=some (.slice (some ⟨x.gl,0,none⟩) x.b.ls.length x.cl)
 c4:W.cell? ⟨g,5,none⟩=some (.slice (some ⟨x.gt,0,none⟩) x.b.ts.length x.ct)
 c5:W.cell? ⟨g,6,none⟩=some (.int .i64 x.b.lot)
 r:Rd W x
 b:Below w.heap.size w W
 lt:g<W.heap.size
theorem Sv.step{w W W':World}{g:Nat}{f:Int}{x:Bx}(h:Sv w W g f x)(k:Below W.heap.size W W'):Sv w W' g f x:=
 ⟨(k.cell (p:=⟨g,0,none⟩) h.lt).trans h.f,(k.cell (p:=⟨g,1,none⟩) h.lt).trans h.c0,(k.cell (p:=⟨g,2,none⟩) h.lt).trans h.c1,(k.cell (p:=⟨g,3,none⟩) h.lt).trans h.c2,(k.cell (p:=⟨g,4,none⟩) h.lt).trans h.c3,(k.cell (p:=⟨g,5,none⟩) h.lt).trans h.c4,(k.cell (p:=⟨g,6,none⟩) h.lt).trans h.c5,h.r.below k,h.b.trans (k.mono h.b.size),Nat.lt_of_lt_of_le h.lt k.size⟩
theorem Sv.made{w W:World}{x:Bx}(h:Rd W x)(b:Below w.heap.size w W)(f:Int)(e:TypeId):Sv w (W.alloc (.cells #[.int .i64 f,.slice (some ⟨x.ga,0,none⟩) x.b.ac.length x.ca,.slice (some ⟨x.gi,0,none⟩) x.b.ic.length x.ci,.slice (some ⟨x.gb,0,none⟩) x.b.bs.length x.cb,.slice (some ⟨x.gl,0,none⟩) x.b.ls.length x.cl,.slice (some ⟨x.gt,0,none⟩) x.b.ts.length x.ct,.int .i64 x.b.lot] e)) W.heap.size f x:=
 ⟨by simp,by simp,by simp,by simp,by simp,by simp,by simp,h.alloc _,b.alloc b.size _,by simp⟩
theorem sSavePack(w:World)(x:Bx)(f:Int)(b:Bool)(h:Rd w x)(hb:Says b (Ok x.b)):
  Calls Tryz.prog 40 #[.agg #[.int .i64 f,.slice (some ⟨x.ga,0,none⟩) x.b.ac.length x.ca,.slice (some ⟨x.gi,0,none⟩) x.b.ic.length x.ci,.slice (some ⟨x.gb,0,none⟩) x.b.bs.length x.cb,.slice (some ⟨x.gl,0,none⟩) x.b.ls.length x.cl,.slice (some ⟨x.gt,0,none⟩) x.b.ts.length x.ct,.int .i64 x.b.lot]] w fun e w'=>e= .returned (.tuple #[.string (saveD f x.b b).1,.bool (saveD f x.b b).2])∧Below w.heap.size w w':=by
 have S0:=zh (Sv.made h (Below.refl _ w) f 59)
 have PK:=zh (fun u h=>sBooksPack u x b h hb)
 have PL:=zh (pack_len2 x.b)
 have BI:=zh (body_in (f:=f) x.b)
 have RE:=zh (show saveD f x.b b=if b=true∧okS f=true∧(bodyS f x.b).length≤9000 then(strOfNums (sealB (bodyS f x.b)),true) else(ByteArray.empty,false) from rfl)
 have BE:=zh (show bodyS f x.b=numB f++packB x.b from rfl)
 generalize saveD f x.b b=rr at *
 generalize bodyS f x.b=bo at *
 generalize packB x.b=pk at *
 clear h hb
 have g0:=(zu S0).f
 have g1:=(zu S0).c0
 have g2:=(zu S0).c1
 have g3:=(zu S0).c2
 have g4:=(zu S0).c3
 have g5:=(zu S0).c4
 have g6:=(zu S0).c5
 go_enter Tryz.func40,Tryz.ntmps40
 go_wp2_with fail
 refine(zu PK _ (zu S0).r).mono ?_
 rintro e u ⟨gp,cp,rfl,op,bb⟩
 have S1:=zh ((zu S0).step bb)
 have OP:=zh op
 have us:=bb.size
 clear bb op g0 g1 g2 g3 g4 g5 g6 S0 PK
 cases b with
 |false=>
  have E:=zh (show rr=(ByteArray.empty,false) by rw[zu RE,if_neg (fun h=>by simp at h)])
  clear RE
  go_wp2
  go_ret2
  rw[zu E]
  exact⟨rfl,(zu S1).b⟩
 |true=>
  have g0:=(zu S1).f
  cases sk:okS f with
  |false=>
   have E:=zh (show rr=(ByteArray.empty,false) by rw[zu RE,if_neg (fun h=>by rw[sk] at h;simp at h)])
   have SK:=zh sk
   clear RE sk
   go_wp2_with fail
   refine(sSegOk _ f false (zu SK)).mono ?_
   rintro e u ⟨rfl,rfl⟩
   go_wp2
   go_ret2
   rw[zu E]
   exact⟨rfl,(zu S1).b⟩
  |true=>
   have SK:=zh sk
   have f19:0≤f∧f≤19:=of_decide_eq_true sk
   have RR:=zh (show rr=if bo.length≤9000 then(strOfNums (sealB bo),true) else(ByteArray.empty,false) by
    rw[zu RE]
    by_cases q:bo.length≤9000
    ·rw[if_pos ⟨rfl,sk,q⟩,if_pos q]
    ·rw[if_neg (fun h=>q h.2.2),if_neg q])
   clear RE sk
   go_wp2_with fail
   refine(sSegOk _ f true (zu SK)).mono ?_
   rintro e u ⟨rfl,rfl⟩
   have n9:=SPut11.numB_nine (x:=f) (by omega)
   have pl:=zu PL
   go_wp2_with fail
   refine(sPutNum _ f (by omega)).mono ?_
   rintro e u1 ⟨g1,c1,rfl,o1,b1⟩
   have S2:=zh ((zu S1).step b1)
   have O1:=zh (o1.mono (base':=w.heap.size) (by have:=(zu S1).b.size;omega))
   have OP1:=zh ((zu OP).below b1 (zu OP).lt.2)
   have lg:=o1.lt
   have gpl:=(zu OP).lt
   have us1:=b1.size
   have wl:=(zu S1).b.size
   clear o1 b1 g0 OP S1
   go_wp2_with (first|(at_builtin;refine wp_catB _ rfl _ _ rfl w.heap.size g1 (numB f).length c1 pk.length (numB f) pk gp 0 cp rfl rfl (zu O1) rfl (AtO.of (zu OP1).at) (by omega) (by omega) ?_)|go_in)
   intro g2 c2 w2 o2 gr2 loc2
   have B2:=zh ((zu S2).b.grown gr2 (by omega) (fun j hj=>by cases hj;omega))
   have us2:=gr2.size
   rw[←zu BE] at o2
   have L2:=zh (show(numB f).length+pk.length=bo.length by rw[zu BE];simp)
   have lb:=(zu L2)
   have SE:=zh (show Calls Tryz.prog 96 #[.slice (some ⟨g2,0,none⟩) ((numB f).length+pk.length) c2] w2 fun e w'=>∃g c,e= .returned (.tuple #[.slice (some ⟨g,0,none⟩) (sealB bo).length c,.bool (decide (bo.length≤9000))])∧ByteH.Own w' w2.heap.size g (sealB bo).length c (sealB bo)∧Below w2.heap.size w2 w' from by
    rw[zu L2]
    exact sSeal w2 g2 c2 bo (by omega) o2.lt.2 (fun i hi=>⟨o2.at i hi,(zu BI) (by omega) i hi⟩))
   have L9:=zh (show(sealB bo).length≤1048576∨True from .inr trivial)
   clear o2 gr2 loc2 lb
   generalize (numB f).length+pk.length=m at *
   clear n9 pl L9
   go_wp2_with fail
   refine(zu SE).mono ?_
   rintro e u3 ⟨g3,c3,rfl,o3,b3⟩
   have B3:=zh ((zu B2).trans (b3.mono (zu B2).size))
   have CB:=of_bytes u3 g3 c3 (sealB bo) o3.at
   clear o3 b3 SE
   by_cases q:bo.length≤9000
   ·have E:=zh (show rr=(strOfNums (sealB bo),true) by rw[zu RR,if_pos q])
    have qd:decide (bo.length≤9000)=true:=decide_eq_true q
    clear RR q
    generalize strOfNums (sealB bo)=st at *
    go_wp2
    go_ret2
    rw[zu E]
    exact⟨rfl,zu B3⟩
   ·have E:=zh (show rr=(ByteArray.empty,false) by rw[zu RR,if_neg q])
    have qd:decide (bo.length≤9000)=false:=decide_eq_false q
    clear RR q CB
    go_wp2
    go_ret2
    rw[zu E]
    exact⟨rfl,zu B3⟩
end SSave16
namespace EBx17
open Fil14 DkH14 SDk14
open BMem (Bx Rd)
open Bks (Bk Ok)
open Bx16 (grow_grow grow_low)
open IBalsFit (one_more)
def Bx11(w:World)(base g:Nat)(v0 v1 v2 v3 v4 v5 v6 v7 v8 v9 v10:Value):Prop:=w.ownsRow base 46 11 (.slice (some ⟨g,0,none⟩) 1 1) 1 [v0,v1,v2,v3,v4,v5,v6,v7,v8,v9,v10]
theorem Bx11.made{w:World}{base g:Nat}(v0 v1 v2 v3 v4 v5 v6 v7 v8 v9 v10:Value)(hb:base≤w.heap.size)(hg:g=w.heap.size):Bx11 (w.alloc (.cells #[v0,v1,v2,v3,v4,v5,v6,v7,v8,v9,v10] 46)) base g v0 v1 v2 v3 v4 v5 v6 v7 v8 v9 v10:=by
 subst hg
 exact⟨rfl,.inr ⟨w.heap.size,1,#[v0,v1,v2,v3,v4,v5,v6,v7,v8,v9,v10],rfl,hb,heap_alloc_new w _,Nat.le_refl _,by unfold maxLen;omega,rfl,rfl⟩⟩
section
variable {w w':World} {base g:Nat} {v0 v1 v2 v3 v4 v5 v6 v7 v8 v9 v10:Value}
theorem Bx11.lt(h:Bx11 w base g v0 v1 v2 v3 v4 v5 v6 v7 v8 v9 v10):base≤g∧g<w.heap.size:=World.ownsRow.lt h g rfl
theorem Bx11.free(h:Bx11 w base g v0 v1 v2 v3 v4 v5 v6 v7 v8 v9 v10)(i:Nat):w.frozen? ⟨g,i,none⟩=false:=World.ownsRow.frozenAt h i
theorem Bx11.c0(h:Bx11 w base g v0 v1 v2 v3 v4 v5 v6 v7 v8 v9 v10):w.cell? ⟨g,0,none⟩=some v0:=(World.ownsRow.cellAt h 0 (by omega)).trans rfl
theorem Bx11.c1(h:Bx11 w base g v0 v1 v2 v3 v4 v5 v6 v7 v8 v9 v10):w.cell? ⟨g,1,none⟩=some v1:=(World.ownsRow.cellAt h 1 (by omega)).trans rfl
theorem Bx11.c2(h:Bx11 w base g v0 v1 v2 v3 v4 v5 v6 v7 v8 v9 v10):w.cell? ⟨g,2,none⟩=some v2:=(World.ownsRow.cellAt h 2 (by omega)).trans rfl
theorem Bx11.c3(h:Bx11 w base g v0 v1 v2 v3 v4 v5 v6 v7 v8 v9 v10):w.cell? ⟨g,3,none⟩=some v3:=(World.ownsRow.cellAt h 3 (by omega)).trans rfl
theorem Bx11.c4(h:Bx11 w base g v0 v1 v2 v3 v4 v5 v6 v7 v8 v9 v10):w.cell? ⟨g,4,none⟩=some v4:=(World.ownsRow.cellAt h 4 (by omega)).trans rfl
theorem Bx11.c5(h:Bx11 w base g v0 v1 v2 v3 v4 v5 v6 v7 v8 v9 v10):w.cell? ⟨g,5,none⟩=some v5:=(World.ownsRow.cellAt h 5 (by omega)).trans rfl
theorem Bx11.c6(h:Bx11 w base g v0 v1 v2 v3 v4 v5 v6 v7 v8 v9 v10):w.cell? ⟨g,6,none⟩=some v6:=(World.ownsRow.cellAt h 6 (by omega)).trans rfl
theorem Bx11.c7(h:Bx11 w base g v0 v1 v2 v3 v4 v5 v6 v7 v8 v9 v10):w.cell? ⟨g,7,none⟩=some v7:=(World.ownsRow.cellAt h 7 (by omega)).trans rfl
theorem Bx11.c8(h:Bx11 w base g v0 v1 v2 v3 v4 v5 v6 v7 v8 v9 v10):w.cell? ⟨g,8,none⟩=some v8:=(World.ownsRow.cellAt h 8 (by omega)).trans rfl
theorem Bx11.c9(h:Bx11 w base g v0 v1 v2 v3 v4 v5 v6 v7 v8 v9 v10):w.cell? ⟨g,9,none⟩=some v9:=(World.ownsRow.cellAt h 9 (by omega)).trans rfl
theorem Bx11.c10(h:Bx11 w base g v0 v1 v2 v3 v4 v5 v6 v7 v8 v9 v10):w.cell? ⟨g,10,none⟩=some v10:=(World.ownsRow.cellAt h 10 (by omega)).trans rfl
theorem Bx11.cs{w:World}{base g:Nat}{v0 v1 v2 v3 v4 v5 v6 v7 v8 v9 v10:Value}(h:Bx11 w base g v0 v1 v2 v3 v4 v5 v6 v7 v8 v9 v10):w.cell? ⟨g,0,none⟩=some v0∧w.cell? ⟨g,1,none⟩=some v1∧w.cell? ⟨g,2,none⟩=some v2∧w.cell? ⟨g,3,none⟩=some v3∧w.cell? ⟨g,4,none⟩=some v4∧w.cell? ⟨g,5,none⟩=some v5∧w.cell? ⟨g,6,none⟩=some v6∧w.cell? ⟨g,7,none⟩=some v7∧w.cell? ⟨g,8,none⟩=some v8∧w.cell? ⟨g,9,none⟩=some v9∧w.cell? ⟨g,10,none⟩=some v10:=⟨h.c0,h.c1,h.c2,h.c3,h.c4,h.c5,h.c6,h.c7,h.c8,h.c9,h.c10⟩
theorem Bx11.fs{w:World}{base g:Nat}{v0 v1 v2 v3 v4 v5 v6 v7 v8 v9 v10:Value}(h:Bx11 w base g v0 v1 v2 v3 v4 v5 v6 v7 v8 v9 v10):w.frozen? ⟨g,0,none⟩=false∧w.frozen? ⟨g,1,none⟩=false∧w.frozen? ⟨g,2,none⟩=false∧w.frozen? ⟨g,3,none⟩=false∧w.frozen? ⟨g,4,none⟩=false∧w.frozen? ⟨g,5,none⟩=false∧w.frozen? ⟨g,6,none⟩=false∧w.frozen? ⟨g,7,none⟩=false∧w.frozen? ⟨g,8,none⟩=false∧w.frozen? ⟨g,9,none⟩=false∧w.frozen? ⟨g,10,none⟩=false:=⟨h.free 0,h.free 1,h.free 2,h.free 3,h.free 4,h.free 5,h.free 6,h.free 7,h.free 8,h.free 9,h.free 10⟩
theorem Bx11.set0(h:Bx11 w base g v0 v1 v2 v3 v4 v5 v6 v7 v8 v9 v10)(u:Value):Bx11 (w.setCell ⟨g,0,none⟩ u) base g u v1 v2 v3 v4 v5 v6 v7 v8 v9 v10∧w.grownBy (w.setCell ⟨g,0,none⟩ u) (some g):=World.ownsRow.stored h 0 u
theorem Bx11.set1(h:Bx11 w base g v0 v1 v2 v3 v4 v5 v6 v7 v8 v9 v10)(u:Value):Bx11 (w.setCell ⟨g,1,none⟩ u) base g v0 u v2 v3 v4 v5 v6 v7 v8 v9 v10∧w.grownBy (w.setCell ⟨g,1,none⟩ u) (some g):=World.ownsRow.stored h 1 u
theorem Bx11.set2(h:Bx11 w base g v0 v1 v2 v3 v4 v5 v6 v7 v8 v9 v10)(u:Value):Bx11 (w.setCell ⟨g,2,none⟩ u) base g v0 v1 u v3 v4 v5 v6 v7 v8 v9 v10∧w.grownBy (w.setCell ⟨g,2,none⟩ u) (some g):=World.ownsRow.stored h 2 u
theorem Bx11.set3(h:Bx11 w base g v0 v1 v2 v3 v4 v5 v6 v7 v8 v9 v10)(u:Value):Bx11 (w.setCell ⟨g,3,none⟩ u) base g v0 v1 v2 u v4 v5 v6 v7 v8 v9 v10∧w.grownBy (w.setCell ⟨g,3,none⟩ u) (some g):=World.ownsRow.stored h 3 u
theorem Bx11.set4(h:Bx11 w base g v0 v1 v2 v3 v4 v5 v6 v7 v8 v9 v10)(u:Value):Bx11 (w.setCell ⟨g,4,none⟩ u) base g v0 v1 v2 v3 u v5 v6 v7 v8 v9 v10∧w.grownBy (w.setCell ⟨g,4,none⟩ u) (some g):=World.ownsRow.stored h 4 u
theorem Bx11.set5(h:Bx11 w base g v0 v1 v2 v3 v4 v5 v6 v7 v8 v9 v10)(u:Value):Bx11 (w.setCell ⟨g,5,none⟩ u) base g v0 v1 v2 v3 v4 u v6 v7 v8 v9 v10∧w.grownBy (w.setCell ⟨g,5,none⟩ u) (some g):=World.ownsRow.stored h 5 u
theorem Bx11.set6(h:Bx11 w base g v0 v1 v2 v3 v4 v5 v6 v7 v8 v9 v10)(u:Value):Bx11 (w.setCell ⟨g,6,none⟩ u) base g v0 v1 v2 v3 v4 v5 u v7 v8 v9 v10∧w.grownBy (w.setCell ⟨g,6,none⟩ u) (some g):=World.ownsRow.stored h 6 u
theorem Bx11.set7(h:Bx11 w base g v0 v1 v2 v3 v4 v5 v6 v7 v8 v9 v10)(u:Value):Bx11 (w.setCell ⟨g,7,none⟩ u) base g v0 v1 v2 v3 v4 v5 v6 u v8 v9 v10∧w.grownBy (w.setCell ⟨g,7,none⟩ u) (some g):=World.ownsRow.stored h 7 u
theorem Bx11.set8(h:Bx11 w base g v0 v1 v2 v3 v4 v5 v6 v7 v8 v9 v10)(u:Value):Bx11 (w.setCell ⟨g,8,none⟩ u) base g v0 v1 v2 v3 v4 v5 v6 v7 u v9 v10∧w.grownBy (w.setCell ⟨g,8,none⟩ u) (some g):=World.ownsRow.stored h 8 u
theorem Bx11.set9(h:Bx11 w base g v0 v1 v2 v3 v4 v5 v6 v7 v8 v9 v10)(u:Value):Bx11 (w.setCell ⟨g,9,none⟩ u) base g v0 v1 v2 v3 v4 v5 v6 v7 v8 u v10∧w.grownBy (w.setCell ⟨g,9,none⟩ u) (some g):=World.ownsRow.stored h 9 u
theorem Bx11.set10(h:Bx11 w base g v0 v1 v2 v3 v4 v5 v6 v7 v8 v9 v10)(u:Value):Bx11 (w.setCell ⟨g,10,none⟩ u) base g v0 v1 v2 v3 v4 v5 v6 v7 v8 v9 u∧w.grownBy (w.setCell ⟨g,10,none⟩ u) (some g):=World.ownsRow.stored h 10 u
theorem Bx11.below{B:Nat}(h:Bx11 w base g v0 v1 v2 v3 v4 v5 v6 v7 v8 v9 v10)(k:Below B w w')(hg:g<B):Bx11 w' base g v0 v1 v2 v3 v4 v5 v6 v7 v8 v9 v10:=by
 refine⟨h.1,?_⟩
 rcases h.2 with⟨h1,_⟩|⟨g',c,cur,h1,h2,h3,h4⟩
 ·simp at h1
 ·have e:g=g':=by simp at h1;exact h1.1
  subst e
  exact .inr ⟨g,c,cur,h1,h2,(k.block g hg).trans h3,h4⟩
theorem Bx11.kept{row:Option Nat}(h:Bx11 w base g v0 v1 v2 v3 v4 v5 v6 v7 v8 v9 v10)(k:w.grownBy w' row)(hne:some g≠row):Bx11 w' base g v0 v1 v2 v3 v4 v5 v6 v7 v8 v9 v10:=World.ownsRow.kept h k (Or.inr hne)
theorem Bx11.all(h:Bx11 w base g v0 v1 v2 v3 v4 v5 v6 v7 v8 v9 v10)(u0 u1 u2 u3 u4 u5 u6 u7 u8 u9 u10:Value):Bx11 ((((((((((((w).setCell ⟨g,0,none⟩ u0).setCell ⟨g,1,none⟩ u1).setCell ⟨g,2,none⟩ u2).setCell ⟨g,3,none⟩ u3).setCell ⟨g,4,none⟩ u4).setCell ⟨g,5,none⟩ u5).setCell ⟨g,6,none⟩ u6).setCell ⟨g,7,none⟩ u7).setCell ⟨g,8,none⟩ u8).setCell ⟨g,9,none⟩ u9).setCell ⟨g,10,none⟩ u10) base g u0 u1 u2 u3 u4 u5 u6 u7 u8 u9 u10∧w.grownBy ((((((((((((w).setCell ⟨g,0,none⟩ u0).setCell ⟨g,1,none⟩ u1).setCell ⟨g,2,none⟩ u2).setCell ⟨g,3,none⟩ u3).setCell ⟨g,4,none⟩ u4).setCell ⟨g,5,none⟩ u5).setCell ⟨g,6,none⟩ u6).setCell ⟨g,7,none⟩ u7).setCell ⟨g,8,none⟩ u8).setCell ⟨g,9,none⟩ u9).setCell ⟨g,10,none⟩ u10) (some g):=by
 have t0:=h.set0 u0
 have t1:=t0.1.set1 u1
 have t2:=t1.1.set2 u2
 have t3:=t2.1.set3 u3
 have t4:=t3.1.set4 u4
 have t5:=t4.1.set5 u5
 have t6:=t5.1.set6 u6
 have t7:=t6.1.set7 u7
 have t8:=t7.1.set8 u8
 have t9:=t8.1.set9 u9
 have t10:=t9.1.set10 u10
 exact⟨t10.1,(grow_grow (grow_grow (grow_grow (grow_grow (grow_grow (grow_grow (grow_grow (grow_grow (grow_grow (grow_grow t0.2 t1.2) t2.2) t3.2) t4.2) t5.2) t6.2) t7.2) t8.2) t9.2) t10.2)⟩
end
structure Eg(w W:World)(g:Nat)(up:Bool)(x:Dx)(z:Bx)(sg ct:Int):Prop where
 k:Bx11 W w.heap.size g (.bool up) (.int .i64 x.room) (.slice x.a x.ps.length x.c) (.slice (some ⟨z.ga,0,none⟩) z.b.ac.length z.ca) (.slice (some ⟨z.gi,0,none⟩) z.b.ic.length z.ci) (.slice (some ⟨z.gb,0,none⟩) z.b.bs.length z.cb) (.slice (some ⟨z.gl,0,none⟩) z.b.ls.length z.cl) (.slice (some ⟨z.gt,0,none⟩) z.b.ts.length z.ct) (.int .i64 z.b.lot) (.int .i64 sg) (.int .i64 ct)
 r:RdD W x
 rb:Rd W z
 b:Below w.heap.size w W
theorem Eg.step{w W W':World}{g:Nat}{up:Bool}{x:Dx}{z:Bx}{sg ct:Int}(h:Eg w W g up x z sg ct)(k:Below W.heap.size W W'):Eg w W' g up x z sg ct:=⟨h.k.below k h.k.lt.2,h.r.below k,h.rb.below k,h.b.trans (k.mono h.b.size)⟩
theorem Eg.made{w W:World}{x:Dx}{z:Bx}(hr:RdD W x)(hz:Rd W z)(b:Below w.heap.size w W)(up:Bool)(sg ct:Int):Eg w (W.alloc (.cells #[.bool up,.int .i64 x.room,.slice x.a x.ps.length x.c,.slice (some ⟨z.ga,0,none⟩) z.b.ac.length z.ca,.slice (some ⟨z.gi,0,none⟩) z.b.ic.length z.ci,.slice (some ⟨z.gb,0,none⟩) z.b.bs.length z.cb,.slice (some ⟨z.gl,0,none⟩) z.b.ls.length z.cl,.slice (some ⟨z.gt,0,none⟩) z.b.ts.length z.ct,.int .i64 z.b.lot,.int .i64 sg,.int .i64 ct] 46)) W.heap.size up x z sg ct:=
 ⟨Bx11.made (.bool up) (.int .i64 x.room) (.slice x.a x.ps.length x.c) (.slice (some ⟨z.ga,0,none⟩) z.b.ac.length z.ca) (.slice (some ⟨z.gi,0,none⟩) z.b.ic.length z.ci) (.slice (some ⟨z.gb,0,none⟩) z.b.bs.length z.cb) (.slice (some ⟨z.gl,0,none⟩) z.b.ls.length z.cl) (.slice (some ⟨z.gt,0,none⟩) z.b.ts.length z.ct) (.int .i64 z.b.lot) (.int .i64 sg) (.int .i64 ct) b.size rfl,hr.below (one_more _ _),hz.alloc _,b.alloc b.size _⟩
theorem Eg.kept{w W W':World}{g G:Nat}{up:Bool}{x:Dx}{z:Bx}{sg ct:Int}(h:Eg w W g up x z sg ct)(k:W.grownBy W' (some G))(hg:g≠G)(hG:w.heap.size≤G)(hr:RdD w x)(hy:Rd w z):Eg w W' g up x z sg ct:=
 have b:=grow_low h.b k ⟨hG,h.b.size⟩
 ⟨h.k.kept k (by simpa using hg),hr.below b,hy.below b,b⟩
end EBx17
namespace SStep16
open Fil14 OpensF14 DiskH14 DkH14 SDk14 SOk14 SRd14 App14 SLess14 SCopy14 SCom14 SAppend14 SSync14 SMove14 SSave16
open BMem (Bx Rd)
open Bks (Bk Ok)
open Lots (Says)
open SClear15 (clearD)
structure G16(w W:World)(x:Dx)(f:Int)(y:Bx):Prop where
 d:Wd w W x
 s:Sv w W (w.heap.size+1) f y
 r:Bc W w.heap.size (w.heap.size+2) (.int .i64 0) (.slice none 0 0)
theorem G16.step{w W W':World}{x:Dx}{f:Int}{y:Bx}(h:G16 w W x f y)(k:Below W.heap.size W W'):G16 w W' x f y:=⟨h.d.step k,h.s.step k,h.r.below k h.r.lt.2⟩
theorem begun16{w:World}{x:Dx}{y:Bx}(hr:RdD w x)(hy:Rd w y)(f:Int):G16 w (((w.alloc (.cells #[.int .i64 x.room,.slice x.a x.ps.length x.c] 37)).alloc (.cells #[.int .i64 f,.slice (some ⟨y.ga,0,none⟩) y.b.ac.length y.ca,.slice (some ⟨y.gi,0,none⟩) y.b.ic.length y.ci,.slice (some ⟨y.gb,0,none⟩) y.b.bs.length y.cb,.slice (some ⟨y.gl,0,none⟩) y.b.ls.length y.cl,.slice (some ⟨y.gt,0,none⟩) y.b.ts.length y.ct,.int .i64 y.b.lot] 59)).alloc (.cells #[.int .i64 0,.slice none 0 0] 37)) x f y:=by
 have d1:=Wd.made hr 37
 have s1:(w.alloc (.cells #[.int .i64 x.room,.slice x.a x.ps.length x.c] 37)).heap.size=w.heap.size+1:=by simp
 have s2:=Sv.made (hy.alloc (.cells #[.int .i64 x.room,.slice x.a x.ps.length x.c] 37)) d1.b f 59
 rw[s1] at s2
 exact⟨(d1.step (one_more _ _)).step (one_more _ _),s2.step (one_more _ _),Bc.made _ _ (by simp;omega) (by simp)⟩
theorem ended16{w u:World}{base0 g:Nat}{y:Dx}(b:Below w.heap.size w u)(rb:Bc u w.heap.size g (.int .i64 0) (.slice none 0 0))(o:OwD u base0 y)(hb:g<base0):OwD ((u.setCell ⟨g,0,none⟩ (.int .i64 y.room)).setCell ⟨g,1,none⟩ (.slice y.a y.ps.length y.c)) w.heap.size y∧Below w.heap.size w ((u.setCell ⟨g,0,none⟩ (.int .i64 y.room)).setCell ⟨g,1,none⟩ (.slice y.a y.ps.length y.c)):=by
 have s0:=rb.set0 (.int .i64 y.room)
 have s1:=bc_set1 s0.1 (.slice y.a y.ps.length y.c)
 have st:=grow_grow s0.2 s1.2
 have lt:=rb.lt
 exact⟨row_base (row_kept o st hb) (by omega),grow_low b st ⟨lt.1,b.size⟩⟩
theorem g16_kept{w W W':World}{x:Dx}{f:Int}{y:Bx}{g:Nat}(h:G16 w W x f y)(k:W.grownBy W' (some g))(hg:w.heap.size+2<g)(hx:∀B,x.a=some ⟨B,0,none⟩→B≠g)(hy:Rd w y):G16 w W' x f y:=by
 refine⟨ITb14.wd_grown h.d k (by omega) hx,?_,h.r.kept k (by simp;omega)⟩
 have lt:=h.s.lt
 have c:=fun o=>kcell k o lt (show w.heap.size+1≠g by omega)
 exact⟨(c 0).trans h.s.f,(c 1).trans h.s.c0,(c 2).trans h.s.c1,(c 3).trans h.s.c2,(c 4).trans h.s.c3,(c 5).trans h.s.c4,(c 6).trans h.s.c5,hy.below (grow_low h.s.b k ⟨by omega,h.s.b.size⟩),grow_low h.s.b k ⟨by omega,h.s.b.size⟩,Nat.lt_of_lt_of_le lt k.size⟩
def lessD(ps:List TF):List TF:=if 0≤findF ps 20 then lessN ps (findF ps 20) ps.length else ps
noncomputable def firstD (room:Int) (ps:List TF) (t:ByteArray):(Int×List TF)×Int:=if(appendD room (lessD ps) 20 t).2=0 then appendD room (lessD ps) 20 t else((room,ps),(appendD room (lessD ps) 20 t).2)
noncomputable def stepsD (room:Int) (ps:List TF) (t:ByteArray) (k:Int):(Int×List TF)×Int:=if k=0 then firstD room ps t else if k=1 then syncD room ps 20 else if k=2 then moveD room ps 20 21 else(clearD room ps [],0)
noncomputable def stepD (room:Int) (ps:List TF) (tx:ByteArray×Bool) (k:Int):(Int×List TF)×Int:=if OkD room ps∧tx.2=true∧decide (0≤k∧k≤3)=true then stepsD room ps tx.1 k else((0,[]),1)
theorem less_small{room:Int}{ps:List TF}(h:OkD room ps):OkD room (lessD ps):=by
 unfold lessD
 split
 ·rename_i q
  obtain⟨k,e,kl,_⟩:=findF_in (ps:=ps) (nm:=20) q
  rw[e]
  exact(Ok14.ok_less h kl).1
 ·exact h
theorem save_size(f:Int)(b:Bk)(ok:Bool):(saveD f b ok).1.size≤1048576:=by
 unfold saveD
 split
 ·rename_i h
  show(strOfNums (SSeal11.sealB (bodyS f b))).size≤1048576
  rw[strOfNums_size]
  unfold SSeal11.sealB
  rw[if_pos h.2.2]
  have:=SPut11.numB_nine (x:=(bodyS f b).length) (by omega)
  simp[SSeal11.four]
  omega
 ·show ByteArray.empty.size≤1048576
  simp
theorem sSaveStep(w:World)(x:Dx)(y:Bx)(f k:Int)(b:Bool)(hr:RdD w x)(hz:sumZ x.ps≤1048576)(hy:Rd w y)(hb:Says b (Ok y.b)):
  Calls Tryz.prog 14 #[.agg #[.int .i64 x.room,.slice x.a x.ps.length x.c],.agg #[.int .i64 f,.slice (some ⟨y.ga,0,none⟩) y.b.ac.length y.ca,.slice (some ⟨y.gi,0,none⟩) y.b.ic.length y.ci,.slice (some ⟨y.gb,0,none⟩) y.b.bs.length y.cb,.slice (some ⟨y.gl,0,none⟩) y.b.ls.length y.cl,.slice (some ⟨y.gt,0,none⟩) y.b.ts.length y.ct,.int .i64 y.b.lot],.int .i64 k] w (ToldD (stepD x.room x.ps (saveD f y.b b) k) w):=by
 have G0:=zh (begun16 hr hy f)
 have s3:(((w.alloc (.cells #[.int .i64 x.room,.slice x.a x.ps.length x.c] 37)).alloc (.cells #[.int .i64 f,.slice (some ⟨y.ga,0,none⟩) y.b.ac.length y.ca,.slice (some ⟨y.gi,0,none⟩) y.b.ic.length y.ci,.slice (some ⟨y.gb,0,none⟩) y.b.bs.length y.cb,.slice (some ⟨y.gl,0,none⟩) y.b.ls.length y.cl,.slice (some ⟨y.gt,0,none⟩) y.b.ts.length y.ct,.int .i64 y.b.lot] 59)).alloc (.cells #[.int .i64 0,.slice none 0 0] 37)).heap.size=w.heap.size+3:=by simp
 have SP:=zh (fun u h=>sSavePack u y f b h hb)
 have OK0:=zh (fun u (h:RdD u x)=>sDiskOk u x h hz)
 have RE:=zh (show stepD x.room x.ps (saveD f y.b b) k=if OkD x.room x.ps∧(saveD f y.b b).2=true∧decide (0≤k∧k≤3)=true then stepsD x.room x.ps (saveD f y.b b).1 k else((0,[]),1) from rfl)
 have TZ:=zh (save_size f y.b b)
 generalize stepD x.room x.ps (saveD f y.b b) k=rr at *
 generalize saveD f y.b b=tx at *
 obtain⟨tt,tb⟩:=tx
 have XA:=zh (fun g e=>(hr.r g e).1)
 have HY0:=zh hy
 clear hr hy hb
 have c0:=(zu G0).s.f
 have c1:=(zu G0).s.c0
 have c2:=(zu G0).s.c1
 have c3:=(zu G0).s.c2
 have c4:=(zu G0).s.c3
 have c5:=(zu G0).s.c4
 have c6:=(zu G0).s.c5
 have lt:=(zu G0).s.lt
 go_enter Tryz.func14,Tryz.ntmps14
 go_wp2_with fail
 generalize ((w.alloc (.cells #[.int .i64 x.room,.slice x.a x.ps.length x.c] 37)).alloc (.cells #[.int .i64 f,.slice (some ⟨y.ga,0,none⟩) y.b.ac.length y.ca,.slice (some ⟨y.gi,0,none⟩) y.b.ic.length y.ci,.slice (some ⟨y.gb,0,none⟩) y.b.bs.length y.cb,.slice (some ⟨y.gl,0,none⟩) y.b.ls.length y.cl,.slice (some ⟨y.gt,0,none⟩) y.b.ts.length y.ct,.int .i64 y.b.lot] 59)).alloc (.cells #[.int .i64 0,.slice none 0 0] 37)=W at *
 refine(zu SP _ (zu G0).s.r).mono ?_
 rintro e u ⟨rfl,b1⟩
 have G1:=zh ((zu G0).step b1)
 have us:=b1.size
 rw[s3] at us
 clear b1 G0 s3 SP c0 c1 c2 c3 c4 c5 c6 lt
 have c0:=(zu G1).d.c0
 have c1:=(zu G1).d.c1
 have lt:=(zu G1).d.lt
 go_wp2_with fail
 refine(zu OK0 _ (zu G1).d.r).mono ?_
 rintro e u2 ⟨rfl,b2⟩
 have G2:=zh ((zu G1).step b2)
 have us2:=b2.size
 clear b2 G1 OK0 c0 c1 lt
 by_cases ok:OkD x.room x.ps
 case neg=>
  have od:decide (OkD x.room x.ps)=false:=decide_eq_false ok
  have E:=zh (show rr=((0,[]),1) by rw[zu RE,if_neg (fun h=>ok h.1)])
  clear RE ok
  have EN:=zh (ended16 (y:=⟨0,none,0,[]⟩) (base0:=w.heap.size+3) (zu G2).d.b (zu G2).r ⟨rfl,.inl ⟨rfl,rfl⟩⟩ (by omega))
  have f0:=(zu G2).r.free 0
  have f1:=(zu G2).r.free 1
  have r0:=(zu G2).r.c0
  have r1:=(zu G2).r.c1
  go_wp2
  refine bodyPost_ret (v:= .tuple #[.agg #[.int .i64 0,.slice none 0 0],.int .i64 1]) (by simp[results,Tryz.results14,go_sem,r0,r1]) rfl ?_
  rw[zu E]
  exact⟨⟨0,none,0,[]⟩,rfl,rfl,(zu EN).1,(zu EN).2⟩
 have od:decide (OkD x.room x.ps)=true:=decide_eq_true ok
 have OK:=zh ok
 cases tb with
 |false=>
  have E:=zh (show rr=((0,[]),1) by rw[zu RE,if_neg (fun h=>by simp at h)])
  clear RE ok
  have EN:=zh (ended16 (y:=⟨0,none,0,[]⟩) (base0:=w.heap.size+3) (zu G2).d.b (zu G2).r ⟨rfl,.inl ⟨rfl,rfl⟩⟩ (by omega))
  have f0:=(zu G2).r.free 0
  have f1:=(zu G2).r.free 1
  have r0:=(zu G2).r.c0
  have r1:=(zu G2).r.c1
  go_wp2
  refine bodyPost_ret (v:= .tuple #[.agg #[.int .i64 0,.slice none 0 0],.int .i64 1]) (by simp[results,Tryz.results14,go_sem,r0,r1]) rfl ?_
  rw[zu E]
  exact⟨⟨0,none,0,[]⟩,rfl,rfl,(zu EN).1,(zu EN).2⟩
 |true=>
 obtain⟨kb,hkb⟩:∃kb,decide (0≤k∧k≤3)=kb:=⟨_,rfl⟩
 have HK:=zh hkb
 clear hkb
 cases kb with
 |false=>
  have E:=zh (show rr=((0,[]),1) by rw[zu RE,if_neg (fun h=>by rw[zu HK] at h;simp at h)])
  clear RE ok
  go_wp2_with fail
  refine(sInB _ k 0 3 false (zu HK)).mono ?_
  rintro e u2 ⟨rfl,rfl⟩
  have EN:=zh (ended16 (y:=⟨0,none,0,[]⟩) (base0:=w.heap.size+3) (zu G2).d.b (zu G2).r ⟨rfl,.inl ⟨rfl,rfl⟩⟩ (by omega))
  have f0:=(zu G2).r.free 0
  have f1:=(zu G2).r.free 1
  have r0:=(zu G2).r.c0
  have r1:=(zu G2).r.c1
  go_wp2
  refine bodyPost_ret (v:= .tuple #[.agg #[.int .i64 0,.slice none 0 0],.int .i64 1]) (by simp[results,Tryz.results14,go_sem,r0,r1]) rfl ?_
  rw[zu E]
  exact⟨⟨0,none,0,[]⟩,rfl,rfl,(zu EN).1,(zu EN).2⟩
 |true=>
 have RR:=zh (show rr=stepsD x.room x.ps tt k by rw[zu RE,if_pos ⟨ok,rfl,zu HK⟩])
 have k03:0≤k∧k≤3:=of_decide_eq_true (zu HK)
 clear RE
 have KC:k=0∨k=1∨k=2∨k=3:=by omega
 clear k03
 have TS:=zu TZ
 have zs:=ok.2.2.1
 have zr:=ok.1
 clear ok
 go_wp2_with fail
 refine(sInB _ k 0 3 true (zu HK)).mono ?_
 rintro e u2 ⟨rfl,rfl⟩
 have c0:=(zu G2).d.c0
 have c1:=(zu G2).d.c1
 have lt:=(zu G2).d.lt
 rcases KC with rfl|rfl|rfl|rfl
 ·have F0:=zh (show rr=firstD x.room x.ps tt by rw[zu RR];rfl)
  have LO:=zh (less_small (zu OK))
  have FD:=zh (show firstD x.room x.ps tt=if(appendD x.room (lessD x.ps) 20 tt).2=0 then appendD x.room (lessD x.ps) 20 tt else((x.room,x.ps),(appendD x.room (lessD x.ps) 20 tt).2) from rfl)
  have DL:=zh (show lessD x.ps=if 0≤findF x.ps 20 then lessN x.ps (findF x.ps 20) x.ps.length else x.ps from rfl)
  have bA:=one_more u2 (.cells #[.int .i64 x.room,.slice x.a x.ps.length x.c] 37)
  have G3:=zh ((zu G2).step bA)
  have KB:=zh (Bc.made (w:=u2) (base:=w.heap.size) (g:=u2.heap.size) (.int .i64 x.room) (.slice x.a x.ps.length x.c) (zu G2).d.b.size rfl)
  clear RR bA c0 c1 lt
  generalize lessD x.ps=qs at *
  have c0:=(zu G2).d.c0
  have c1:=(zu G2).d.c1
  have lt:=(zu G2).d.lt
  have d0:=(zu G3).d.c0
  have d1:=(zu G3).d.c1
  have dl:=(zu G3).d.lt
  go_wp2_with fail
  clear c0 c1 lt d0 d1 dl
  have B3:=zh (zu G3).d.b
  generalize hV3:u2.alloc (.cells #[.int .i64 x.room,.slice x.a x.ps.length x.c] 37)=V3 at *
  refine(sFind V3 x 20 (zu G3).d.r).mono ?_
  rintro e u4 ⟨rfl,b4⟩
  have bl3:u2.heap.size<V3.heap.size:=(zu KB).lt.2
  have K4:=zh ((zu KB).below b4 bl3)
  have G4:=zh ((zu G3).step b4)
  have us4:=b4.size
  clear b4 G2 hV3 KB G3 B3
  generalize u2.heap.size=g5 at *
  generalize findF x.ps 20=fi at *
  by_cases fz:0≤fi
  ·have fb:decide (fi≥0)=true:=decide_eq_true fz
   have QE:=zh (show qs=lessN x.ps fi x.ps.length by rw[zu DL,if_pos fz])
   clear DL fz
   have c0:=(zu G4).d.c0
   have c1:=(zu G4).d.c1
   have lt:=(zu G4).d.lt
   go_wp2_with fail
   refine(sLess u4 x fi (zu G4).d.r).mono ?_
   rintro e u5 ⟨v,hv0,hv,rfl,ov,b5⟩
   have K5:=zh ((zu K4).below b5 (zu K4).lt.2)
   have G5:=zh ((zu G4).step b5)
   have OV:=zh ov
   have us5:=b5.size
   clear b5 ov c0 c1 lt
   have f0:=(zu K5).free 0
   have f1:=(zu K5).free 1
   have k0:=(zu K5).c0
   have k1:=(zu K5).c1
   have t0:=(zu K5).set0 (.int .i64 v.room)
   have t1:=bc_set1 t0.1 (.slice v.a v.ps.length v.c)
   have ST:=zh (grow_grow t0.2 t1.2)
   have K6:=zh t1.1
   have gv:g5<u4.heap.size:=(zu K4).lt.2
   have OV6:=zh (show OwD ((u5.setCell ⟨g5,0,none⟩ (.int .i64 v.room)).setCell ⟨g5,1,none⟩ (.slice v.a v.ps.length v.c)) u4.heap.size v from row_kept (zu OV) (zu ST) gv)
   have G6:=zh (g16_kept (zu G5) (zu ST) (by omega) (fun k e=>by have:=(zu XA) k e;omega) (zu HY0))
   have QV:=zh (show v.ps=qs by rw[hv,zu QE])
   have QR:=zh hv0
   clear t0 t1 hv hv0 OV QE K4 K5 G5
   have RD6:=zh ((zu OV6).rd (by rw[zu QV];have:=(zu LO).2.1;omega))
   have kl:g5<((u5.setCell ⟨g5,0,none⟩ (.int .i64 v.room)).setCell ⟨g5,1,none⟩ (.slice v.a v.ps.length v.c)).heap.size:=Nat.lt_of_lt_of_le (zu K6).lt.2 (Nat.le_refl _)
   have qe:=zu QV
   subst qe
   have LO':=zu LO
   have FD2:=zh (show firstD x.room x.ps tt=if(appendD v.room v.ps 20 tt).2=0 then appendD v.room v.ps 20 tt else((x.room,x.ps),(appendD v.room v.ps 20 tt).2) by rw[zu QR];exact zu FD)
   have AP:=zh (sDiskAppend ((u5.setCell ⟨g5,0,none⟩ (.int .i64 v.room)).setCell ⟨g5,1,none⟩ (.slice v.a v.ps.length v.c)) v 20 tt ((zu RD6)) (by have:=LO'.1;have:=LO'.2.2.1;omega) (by omega))
   generalize appendD v.room v.ps 20 tt=ap at *
   obtain⟨ap1,ac⟩:=ap
   clear FD LO LO'
   go_wp2_with fail
   generalize (u5.setCell ⟨g5,0,none⟩ (.int .i64 v.room)).setCell ⟨g5,1,none⟩ (.slice v.a v.ps.length v.c)=u6 at *
   refine(zu AP).mono ?_
   rintro e u7 ⟨z,hz',rfl,oz,b7⟩
   have G7:=zh ((zu G6).step b7)
   have us7:=b7.size
   have bA:=one_more u7 (.cells #[.int .i64 z.room,.slice z.a z.ps.length z.c] 37)
   have G8:=zh ((zu G7).step bA)
   have OZ:=zh (oz.step bA)
   have HZ0:=zh hz'
   have lu:=(zu G6).r.lt.2
   clear b7 bA oz hz' f0 k0 k1 kl AP K6
   by_cases az:ac=0
   ·subst az
    have E:=zh (show rr=(ap1,0) by rw[zu F0,zu FD2,if_pos rfl])
    have EN:=zh (ended16 (zu G8).d.b (zu G8).r (zu OZ) lu)
    have f0:=(zu G8).r.free 0
    have f1:=(zu G8).r.free 1
    have r0:=(zu G8).r.c0
    have r1:=(zu G8).r.c1
    clear F0 FD2
    go_wp2
    refine bodyPost_ret (v:= .tuple #[.agg #[.int .i64 z.room,.slice z.a z.ps.length z.c],.int .i64 0]) (by simp[results,Tryz.results14,go_sem,r0,r1]) rfl ?_
    rw[zu E]
    exact⟨z,zu HZ0,rfl,(zu EN).1,(zu EN).2⟩
   ·have E:=zh (show rr=((x.room,x.ps),ac) by rw[zu F0,zu FD2,if_neg az])
    have ab:(ac !=0)=true:=by simpa using az
    clear F0 FD2 az HZ0 OZ
    have c0:=(zu G8).d.c0
    have c1:=(zu G8).d.c1
    have lt:=(zu G8).d.lt
    go_wp2_with fail
    refine(sCopy _ x (zu G8).d.r).mono ?_
    rintro e u9 ⟨q,hq0,hq,rfl,oq,b9⟩
    have hqq:(q.room,q.ps)=(x.room,x.ps):=by rw[hq0,hq]
    clear c0 c1 lt hq0 hq
    have G9:=zh ((zu G8).step b9)
    have HZ:=zh hqq
    have EN:=zh (ended16 (zu G9).d.b (zu G9).r oq (zu G8).r.lt.2)
    have f0:=(zu G9).r.free 0
    have f1:=(zu G9).r.free 1
    have r0:=(zu G9).r.c0
    have r1:=(zu G9).r.c1
    clear b9 oq hqq
    go_wp2
    refine bodyPost_ret (v:= .tuple #[.agg #[.int .i64 q.room,.slice q.a q.ps.length q.c],.int .i64 ac]) (by simp[results,Tryz.results14,go_sem,r0,r1]) rfl ?_
    rw[zu E]
    exact⟨q,zu HZ,rfl,(zu EN).1,(zu EN).2⟩
  ·have fb:decide (fi≥0)=false:=decide_eq_false fz
   have QV:=zh (show x.ps=qs by rw[zu DL,if_neg fz])
   have QR:=zh (show x.room=x.room from rfl)
   have G6:=G4
   have RD6:=zh (zu G4).d.r
   have f0:=(zu K4).free 0
   have k0:=(zu K4).c0
   have k1:=(zu K4).c1
   have kl9:=(zu K4).lt.2
   clear DL fz K4
   have kl4:g5<u4.heap.size:=kl9
   have kl:g5<u4.heap.size:=kl4
   have qe:=zu QV
   subst qe
   have LO':=zu LO
   have FD2:=zh (show firstD x.room x.ps tt=if(appendD x.room x.ps 20 tt).2=0 then appendD x.room x.ps 20 tt else((x.room,x.ps),(appendD x.room x.ps 20 tt).2) by rw[zu QR];exact zu FD)
   have AP:=zh (sDiskAppend u4 x 20 tt ((zu RD6)) (by have:=LO'.1;have:=LO'.2.2.1;omega) (by omega))
   generalize appendD x.room x.ps 20 tt=ap at *
   obtain⟨ap1,ac⟩:=ap
   clear FD LO LO'
   go_wp2_with fail
   refine(zu AP).mono ?_
   rintro e u7 ⟨z,hz',rfl,oz,b7⟩
   have G7:=zh ((zu G6).step b7)
   have us7:=b7.size
   have bA:=one_more u7 (.cells #[.int .i64 z.room,.slice z.a z.ps.length z.c] 37)
   have G8:=zh ((zu G7).step bA)
   have OZ:=zh (oz.step bA)
   have HZ0:=zh hz'
   have lu:=(zu G6).r.lt.2
   clear b7 bA oz hz' f0 k0 k1 kl AP
   by_cases az:ac=0
   ·subst az
    have E:=zh (show rr=(ap1,0) by rw[zu F0,zu FD2,if_pos rfl])
    have EN:=zh (ended16 (zu G8).d.b (zu G8).r (zu OZ) lu)
    have f0:=(zu G8).r.free 0
    have f1:=(zu G8).r.free 1
    have r0:=(zu G8).r.c0
    have r1:=(zu G8).r.c1
    clear F0 FD2
    go_wp2
    refine bodyPost_ret (v:= .tuple #[.agg #[.int .i64 z.room,.slice z.a z.ps.length z.c],.int .i64 0]) (by simp[results,Tryz.results14,go_sem,r0,r1]) rfl ?_
    rw[zu E]
    exact⟨z,zu HZ0,rfl,(zu EN).1,(zu EN).2⟩
   ·have E:=zh (show rr=((x.room,x.ps),ac) by rw[zu F0,zu FD2,if_neg az])
    have ab:(ac !=0)=true:=by simpa using az
    clear F0 FD2 az HZ0 OZ
    have c0:=(zu G8).d.c0
    have c1:=(zu G8).d.c1
    have lt:=(zu G8).d.lt
    go_wp2_with fail
    refine(sCopy _ x (zu G8).d.r).mono ?_
    rintro e u9 ⟨q,hq0,hq,rfl,oq,b9⟩
    have hqq:(q.room,q.ps)=(x.room,x.ps):=by rw[hq0,hq]
    clear c0 c1 lt hq0 hq
    have G9:=zh ((zu G8).step b9)
    have HZ:=zh hqq
    have EN:=zh (ended16 (zu G9).d.b (zu G9).r oq (zu G8).r.lt.2)
    have f0:=(zu G9).r.free 0
    have f1:=(zu G9).r.free 1
    have r0:=(zu G9).r.c0
    have r1:=(zu G9).r.c1
    clear b9 oq hqq
    go_wp2
    refine bodyPost_ret (v:= .tuple #[.agg #[.int .i64 q.room,.slice q.a q.ps.length q.c],.int .i64 ac]) (by simp[results,Tryz.results14,go_sem,r0,r1]) rfl ?_
    rw[zu E]
    exact⟨q,zu HZ,rfl,(zu EN).1,(zu EN).2⟩
 ·have E:=zh (show rr=syncD x.room x.ps 20 by rw[zu RR];rfl)
  have SY:=zh (sDiskSync u2 x 20 (zu G2).d.r hz)
  generalize syncD x.room x.ps 20=ra at *
  obtain⟨rd,rc⟩:=ra
  clear RR
  go_wp2_with fail
  refine(zu SY).mono ?_
  rintro e u9 ⟨z,hz',rfl,oz,b9⟩
  clear c0 c1 lt SY
  have G9:=zh ((zu G2).step b9)
  have HZ:=zh hz'
  have EN:=zh (ended16 (zu G9).d.b (zu G9).r oz (zu G2).r.lt.2)
  have f0:=(zu G9).r.free 0
  have f1:=(zu G9).r.free 1
  have r0:=(zu G9).r.c0
  have r1:=(zu G9).r.c1
  clear b9 oz hz'
  go_wp2
  refine bodyPost_ret (v:= .tuple #[.agg #[.int .i64 z.room,.slice z.a z.ps.length z.c],.int .i64 rc]) (by simp[results,Tryz.results14,go_sem,r0,r1]) rfl ?_
  rw[zu E]
  exact⟨z,zu HZ,rfl,(zu EN).1,(zu EN).2⟩
 ·have E:=zh (show rr=moveD x.room x.ps 20 21 by rw[zu RR];rfl)
  have SY:=zh (sDiskMove u2 x 20 21 (zu G2).d.r hz)
  generalize moveD x.room x.ps 20 21=ra at *
  obtain⟨rd,rc⟩:=ra
  clear RR
  go_wp2_with fail
  refine(zu SY).mono ?_
  rintro e u9 ⟨z,hz',rfl,oz,b9⟩
  clear c0 c1 lt SY
  have G9:=zh ((zu G2).step b9)
  have HZ:=zh hz'
  have EN:=zh (ended16 (zu G9).d.b (zu G9).r oz (zu G2).r.lt.2)
  have f0:=(zu G9).r.free 0
  have f1:=(zu G9).r.free 1
  have r0:=(zu G9).r.c0
  have r1:=(zu G9).r.c1
  clear b9 oz hz'
  go_wp2
  refine bodyPost_ret (v:= .tuple #[.agg #[.int .i64 z.room,.slice z.a z.ps.length z.c],.int .i64 rc]) (by simp[results,Tryz.results14,go_sem,r0,r1]) rfl ?_
  rw[zu E]
  exact⟨z,zu HZ,rfl,(zu EN).1,(zu EN).2⟩
 ·have E:=zh (show rr=(clearD x.room x.ps [],0) by rw[zu RR];rfl)
  have SY:=zh (SClear16.sSegsClearO u2 x none 0 [] (zu G2).d.r hz (by simp) (.inl rfl))
  generalize clearD x.room x.ps []=ra at *
  obtain⟨rd,rc⟩:=ra
  clear RR
  go_wp2_with fail
  refine(zu SY).mono ?_
  rintro e u9 ⟨z,hz',rfl,oz,b9⟩
  clear c0 c1 lt SY
  have G9:=zh ((zu G2).step b9)
  have HZ:=zh hz'
  have EN:=zh (ended16 (zu G9).d.b (zu G9).r oz (zu G2).r.lt.2)
  have f0:=(zu G9).r.free 0
  have f1:=(zu G9).r.free 1
  have r0:=(zu G9).r.c0
  have r1:=(zu G9).r.c1
  clear b9 oz hz'
  go_wp2
  refine bodyPost_ret (v:= .tuple #[.agg #[.int .i64 z.room,.slice z.a z.ps.length z.c],.int .i64 0]) (by simp[results,Tryz.results14,go_sem,r0,r1]) rfl ?_
  rw[zu E]
  exact⟨z,zu HZ,rfl,(zu EN).1,(zu EN).2⟩
end SStep16
namespace SWrite16
open Fil14 OpensF14 DiskH14 DkH14 SDk14 SOk14 SRd14 App14 SLess14 SCopy14 SCom14 SAppend14 SSync14 SMove14 SSave16 SStep16
open BMem (Bx Rd)
open Bks (Bk Ok)
open Lots (Says)
open SClear15 (clearD stays)
open Pure14
theorem sum_filter(f:TF→Bool):∀ps:List TF,sumZ (ps.filter f)≤sumZ ps
 |[]=>by simp
 |p::ps=>by
  have:=sum_filter f ps
  rw[List.filter_cons]
  split
  ·rw[sum_cons,sum_cons];omega
  ·rw[sum_cons];omega
theorem clear_ok{room:Int}{ps:List TF}(ks:List Int)(h:OkD room ps):OkD room (ps.filter (stays ks)):=by
 obtain⟨ha,hn⟩:=asc_of h
 have:=sum_filter (stays ks) ps
 have:=h.2.2.1
 exact okd_of h.1 (by omega) (List.Pairwise.filter _ ha) (fun p hp=>hn p (List.mem_filter.1 hp).1)
theorem clear_okD{room:Int}{ps:List TF}(h:OkD room ps):OkD (clearD room ps []).1 (clearD room ps []).2:=by
 unfold SClear15.clearD
 rw[if_pos ⟨h,by simp⟩]
 exact clear_ok [] h
theorem step_ok{room:Int}{ps:List TF}{tx:ByteArray×Bool}{k:Int}(h:(stepD room ps tx k).2=0):OkD (stepD room ps tx k).1.1 (stepD room ps tx k).1.2:=by
 unfold stepD at h⊢
 split at h
 ·rename_i q
  rw[if_pos q]
  have ok:=q.1
  unfold stepsD at h⊢
  by_cases k0:k=0
  ·rw[if_pos k0] at h⊢
   unfold firstD at h⊢
   by_cases a:(appendD room (lessD ps) 20 tx.1).2=0
   ·rw[if_pos a]
    exact Okk14.rg_append (room:=room) 20 tx.1 (less_small ok) (by rw[a];decide)
   ·rw[if_neg a] at h
    exact absurd h a
  ·rw[if_neg k0] at h⊢
   by_cases k1:k=1
   ·rw[if_pos k1] at h⊢
    exact Okk14.rg_sync (room:=room) 20 ok (by rw[h];decide)
   ·rw[if_neg k1] at h⊢
    by_cases k2:k=2
    ·rw[if_pos k2] at h⊢
     exact Okk14.rg_move (room:=room) 20 21 ok (by rw[h];decide)
    ·rw[if_neg k2]
     exact clear_okD ok
 ·simp at h
end SWrite16
namespace IFour16
open Fil14 OpensF14 DiskH14 DkH14 SDk14 SOk14 SRd14 App14 SLess14 SCopy14 SRef14 SCom14 SAppend14 SSync14 SMove14 SDrop14 SSave16 SStep16
open SClear15 (clearD)
theorem name20:okN 20=true:=by unfold okN;decide
theorem name21:okN 21=true:=by unfold okN;decide
theorem at_is{room:Int}{ps:List TF}(h:OkD room ps):atD room ps 20=(findF ps 20,if findF ps 20<0 then 2 else 0):=if_pos ⟨h,name20⟩
theorem drop_is{room:Int}{ps:List TF}(h:OkD room ps):(dropD room ps 20).1=(room,lessD ps):=by
 have A:=at_is h
 unfold dropD lessD
 rw[A]
 by_cases q:findF ps 20<0
 ·simp only[if_pos q]
  rw[if_neg (by decide),if_neg (by omega)]
  rfl
 ·simp only[if_neg q]
  rw[if_pos trivial,if_pos (by omega)]
theorem sync_no{room:Int}{ps:List TF}(h:OkD room ps)(k:(syncD room ps 20).2≠0):(syncD room ps 20).1=(room,ps):=by
 have A:=at_is h
 unfold syncD at k⊢
 rw[A] at k⊢
 by_cases q:findF ps 20<0
 ·simp only[if_pos q] at k⊢
  rw[if_neg (by decide)]
  rfl
 ·simp only[if_neg q] at k
  exact absurd rfl k
theorem move_no{room:Int}{ps:List TF}(h:OkD room ps)(k:(moveD room ps 20 21).2≠0):(moveD room ps 20 21).1=(room,ps):=by
 have A:=at_is h
 unfold moveD at k⊢
 rw[if_pos ⟨name21,by decide⟩,A] at k⊢
 by_cases q:findF ps 20<0
 ·simp only[if_pos q] at k⊢
  rw[if_neg (by decide)]
  rfl
 ·simp only[if_neg q] at k
  exact absurd rfl k
noncomputable def rawD (room:Int) (ps:List TF) (t:ByteArray) (k:Int):(Int×List TF)×Int:=if k=0 then appendD room (lessD ps) 20 t else if k=1 then syncD room ps 20 else if k=2 then moveD room ps 20 21 else(clearD room ps [],0)
theorem raw_is{room:Int}{ps:List TF}(h:OkD room ps)(t:ByteArray)(k:Int):stepsD room ps t k=if(rawD room ps t k).2=0 then rawD room ps t k else((room,ps),(rawD room ps t k).2):=by
 unfold stepsD rawD
 by_cases k0:k=0
 ·rw[if_pos k0,if_pos k0];rfl
 ·simp only[if_neg k0]
  by_cases k1:k=1
  ·simp only[if_pos k1]
   by_cases q:(syncD room ps 20).2=0
   ·rw[if_pos q]
   ·rw[if_neg q,←sync_no h q]
  ·simp only[if_neg k1]
   by_cases k2:k=2
   ·simp only[if_pos k2]
    by_cases q:(moveD room ps 20 21).2=0
    ·rw[if_pos q]
    ·rw[if_neg q,←move_no h q]
   ·simp only[if_neg k2]
    rw[if_pos trivial]
theorem iWriteNew(w:World)(x:Dx)(t:ByteArray)(hr:RdD w x)(hz:sumZ x.ps≤1048576)(ok:OkD x.room x.ps)(ht:t.size≤9223372036854775807):Calls Tryz.prog 148 #[.agg #[.int .i64 x.room,.slice x.a x.ps.length x.c],.string t] w (ToldD (appendD x.room (lessD x.ps) 20 t) w):=by
 have G0:=zh (begunD hr)
 have s2:((w.alloc (.cells #[.int .i64 x.room,.slice x.a x.ps.length x.c] 37)).alloc (.cells #[.int .i64 0,.slice none 0 0] 37)).heap.size=w.heap.size+2:=by simp
 have DR:=zh (IDrop14.iDiskDrop _ x 20 (zu G0).1.r hz)
 have DD:=zh (drop_is ok)
 have LO:=zh (less_small ok)
 have AP:=zh (fun u (z:Dx) (h:RdD u z) (hz:sumZ z.ps≤1048576)=>IAppend14.iDiskAppend u z 20 t h hz ht)
 have c0:=(zu G0).1.c0
 have c1:=(zu G0).1.c1
 have lt:=(zu G0).1.lt
 obtain⟨rr,hrr⟩:∃rr,appendD x.room (lessD x.ps) 20 t=rr:=⟨_,rfl⟩
 rw[hrr]
 have RR:=zh hrr
 clear hrr
 generalize dropD x.room x.ps 20=dd at *
 generalize lessD x.ps=qs at *
 obtain⟨dd,dc⟩:=dd
 clear hr ok
 go_enter Tryz.func148,Tryz.ntmps148
 go_wp2_with fail
 generalize (w.alloc (.cells #[.int .i64 x.room,.slice x.a x.ps.length x.c] 37)).alloc (.cells #[.int .i64 0,.slice none 0 0] 37)=W at *
 refine(zu DR).mono ?_
 rintro e u ⟨z,hz',rfl,oz,b1⟩
 have e1:=hz'.trans (zu DD)
 obtain⟨e2,e3⟩:z.room=x.room∧z.ps=qs:=Prod.ext_iff.1 e1
 subst e3
 rw[←e2] at LO
 have RQ:=zh (show appendD z.room z.ps 20 t=rr from by rw[e2];exact zu RR)
 clear RR
 have us:=b1.size
 have bA:=one_more u (.cells #[.int .i64 z.room,.slice z.a z.ps.length z.c] 37)
 have G1:=zh (((zu G0).1.step b1).step bA)
 have R1:=zh (((zu G0).2.below b1 (zu G0).2.lt.2).below bA (by have:=(zu G0).2.lt.2;omega))
 have OK:=zu LO
 have OZ:=zh ((oz.step bA).rd (by have:=OK.2.1;omega))
 have AQ:=zh (fun u' (h:RdD u' z)=>(zu AP) u' z h (by have:=OK.2.2.1;have:=OK.1;omega))
 have lw:=(zu G0).2.lt.2
 clear b1 bA oz hz' e1 e2 c0 c1 lt DR DD LO AP OK G0
 rw[zu RQ] at AQ
 clear RQ
 obtain⟨rd,rc⟩:=rr
 go_wp2_with fail
 refine(zu AQ _ (zu OZ)).mono ?_
 rintro e u9 ⟨y,hz',rfl,oy,b9⟩
 have G9:=zh ((zu G1).step b9)
 have R9:=zh ((zu R1).below b9 (zu R1).lt.2)
 have OY:=zh oy
 have HZ:=zh hz'
 have lw1:=(zu R1).lt.2
 clear b9 oy hz' AQ G1 R1 OZ
 have EN:=zh (endedD (zu G9).b (zu R9) (zu OY) (by omega))
 have f0:=(zu R9).free 0
 have f1:=(zu R9).free 1
 have r0:=(zu R9).c0
 have r1:=(zu R9).c1
 go_wp2
 refine bodyPost_ret (v:= .tuple #[.agg #[.int .i64 y.room,.slice y.a y.ps.length y.c],.int .i64 rc]) (by simp[results,Tryz.results148,go_sem,r0,r1]) rfl ?_
 exact⟨y,zu HZ,rfl,(zu EN).1,(zu EN).2⟩
theorem iSyncNew(w:World)(x:Dx)(t:ByteArray)(hr:RdD w x)(hz:sumZ x.ps≤1048576):Calls Tryz.prog 149 #[.agg #[.int .i64 x.room,.slice x.a x.ps.length x.c],.string t] w (ToldD (syncD x.room x.ps 20) w):=by
 have G0:=zh (begunD hr)
 have s2:((w.alloc (.cells #[.int .i64 x.room,.slice x.a x.ps.length x.c] 37)).alloc (.cells #[.int .i64 0,.slice none 0 0] 37)).heap.size=w.heap.size+2:=by simp
 have SY:=zh (ISync14.iDiskSync _ x 20 (zu G0).1.r hz)
 have c0:=(zu G0).1.c0
 have c1:=(zu G0).1.c1
 have lt:=(zu G0).1.lt
 generalize syncD x.room x.ps 20=rr at *
 obtain⟨rd,rc⟩:=rr
 clear hr
 go_enter Tryz.func149,Tryz.ntmps149
 go_wp2_with fail
 generalize (w.alloc (.cells #[.int .i64 x.room,.slice x.a x.ps.length x.c] 37)).alloc (.cells #[.int .i64 0,.slice none 0 0] 37)=W at *
 refine(zu SY).mono ?_
 rintro e u9 ⟨z,hz',rfl,oz,b9⟩
 have WZ:=zh ((zu G0).1.step b9)
 have R9:=zh ((zu G0).2.below b9 (zu G0).2.lt.2)
 have OZ:=zh oz
 have HZ:=zh hz'
 have lw:=(zu G0).2.lt.2
 clear c0 c1 lt SY b9 oz hz'
 have EN:=zh (endedD (zu WZ).b (zu R9) (zu OZ) (by omega))
 have f0:=(zu R9).free 0
 have f1:=(zu R9).free 1
 have r0:=(zu R9).c0
 have r1:=(zu R9).c1
 go_wp2
 refine bodyPost_ret (v:= .tuple #[.agg #[.int .i64 z.room,.slice z.a z.ps.length z.c],.int .i64 rc]) (by simp[results,Tryz.results149,go_sem,r0,r1]) rfl ?_
 exact⟨z,zu HZ,rfl,(zu EN).1,(zu EN).2⟩
theorem iMoveNew(w:World)(x:Dx)(t:ByteArray)(hr:RdD w x)(hz:sumZ x.ps≤1048576):Calls Tryz.prog 150 #[.agg #[.int .i64 x.room,.slice x.a x.ps.length x.c],.string t] w (ToldD (moveD x.room x.ps 20 21) w):=by
 have G0:=zh (begunD hr)
 have s2:((w.alloc (.cells #[.int .i64 x.room,.slice x.a x.ps.length x.c] 37)).alloc (.cells #[.int .i64 0,.slice none 0 0] 37)).heap.size=w.heap.size+2:=by simp
 have SY:=zh (IMove14.iDiskMove _ x 20 21 (zu G0).1.r hz)
 have c0:=(zu G0).1.c0
 have c1:=(zu G0).1.c1
 have lt:=(zu G0).1.lt
 generalize moveD x.room x.ps 20 21=rr at *
 obtain⟨rd,rc⟩:=rr
 clear hr
 go_enter Tryz.func150,Tryz.ntmps150
 go_wp2_with fail
 generalize (w.alloc (.cells #[.int .i64 x.room,.slice x.a x.ps.length x.c] 37)).alloc (.cells #[.int .i64 0,.slice none 0 0] 37)=W at *
 refine(zu SY).mono ?_
 rintro e u9 ⟨z,hz',rfl,oz,b9⟩
 have WZ:=zh ((zu G0).1.step b9)
 have R9:=zh ((zu G0).2.below b9 (zu G0).2.lt.2)
 have OZ:=zh oz
 have HZ:=zh hz'
 have lw:=(zu G0).2.lt.2
 clear c0 c1 lt SY b9 oz hz'
 have EN:=zh (endedD (zu WZ).b (zu R9) (zu OZ) (by omega))
 have f0:=(zu R9).free 0
 have f1:=(zu R9).free 1
 have r0:=(zu R9).c0
 have r1:=(zu R9).c1
 go_wp2
 refine bodyPost_ret (v:= .tuple #[.agg #[.int .i64 z.room,.slice z.a z.ps.length z.c],.int .i64 rc]) (by simp[results,Tryz.results150,go_sem,r0,r1]) rfl ?_
 exact⟨z,zu HZ,rfl,(zu EN).1,(zu EN).2⟩
theorem iClearSegs(w:World)(x:Dx)(t:ByteArray)(hr:RdD w x)(hz:sumZ x.ps≤1048576):Calls Tryz.prog 151 #[.agg #[.int .i64 x.room,.slice x.a x.ps.length x.c],.string t] w (ToldD (clearD x.room x.ps [],0) w):=by
 have G0:=zh (begunD hr)
 have s2:((w.alloc (.cells #[.int .i64 x.room,.slice x.a x.ps.length x.c] 37)).alloc (.cells #[.int .i64 0,.slice none 0 0] 37)).heap.size=w.heap.size+2:=by simp
 have SY:=zh (IClear16.iSegsClearO _ x none 0 [] (zu G0).1.r hz (by simp) (.inl rfl))
 have c0:=(zu G0).1.c0
 have c1:=(zu G0).1.c1
 have lt:=(zu G0).1.lt
 generalize clearD x.room x.ps []=rd at *
 clear hr
 go_enter Tryz.func151,Tryz.ntmps151
 go_wp2_with fail
 generalize (w.alloc (.cells #[.int .i64 x.room,.slice x.a x.ps.length x.c] 37)).alloc (.cells #[.int .i64 0,.slice none 0 0] 37)=W at *
 refine(zu SY).mono ?_
 rintro e u9 ⟨z,hz',rfl,oz,b9⟩
 have WZ:=zh ((zu G0).1.step b9)
 have R9:=zh ((zu G0).2.below b9 (zu G0).2.lt.2)
 have OZ:=zh oz
 have HZ:=zh hz'
 have lw:=(zu G0).2.lt.2
 clear c0 c1 lt SY b9 oz hz'
 have EN:=zh (endedD (zu WZ).b (zu R9) (zu OZ) (by omega))
 have f0:=(zu R9).free 0
 have f1:=(zu R9).free 1
 have r0:=(zu R9).c0
 have r1:=(zu R9).c1
 go_wp2
 refine bodyPost_ret (v:= .tuple #[.agg #[.int .i64 z.room,.slice z.a z.ps.length z.c],.int .i64 0]) (by simp[results,Tryz.results151,go_sem,r0,r1]) rfl ?_
 exact⟨z,zu HZ,rfl,(zu EN).1,(zu EN).2⟩
def stepF(k:Int):FuncId:=if k=0 then 148 else if k=1 then 149 else if k=2 then 150 else 151
theorem iAtNo(w:World)(k:Int)(h:¬(0≤k∧k≤3)):Calls Tryz.prog 114 #[.int .i64 k] w fun e w'=>e= .returned .nilFunc∧Below w.heap.size w w':=by
 have sf:∀(w:World) (a:Addr) (i:FuncId) (m),(store a (.func (.func i) #[] #[]) m).run Tryz.prog w=stored Tryz.prog w a (.func (.func i) #[] #[]) m:=fun w a i m=>run_store Tryz.prog w a _ m rfl
 have sn:∀(w:World) (a:Addr) (m),(store a .nilFunc m).run Tryz.prog w=stored Tryz.prog w a .nilFunc m:=fun w a m=>run_store Tryz.prog w a _ m rfl
 by_cases h0:k<0
 ·go_enter Tryz.func114,Tryz.ntmps114
  go_wp2
  go_ret
  exact⟨rfl,one_more w _⟩
 ·have h4:k≥4:=by omega
  clear h
  go_enter Tryz.func114,Tryz.ntmps114
  go_wp2
  go_ret
  exact⟨rfl,one_more w _⟩
theorem iAtYes(w:World)(k:Int)(h:0≤k∧k≤3):Calls Tryz.prog 114 #[.int .i64 k] w fun e w'=>e= .returned (.func (.func (stepF k)) #[] #[])∧Below w.heap.size w w':=by
 have sf:∀(w:World) (a:Addr) (i:FuncId) (m),(store a (.func (.func i) #[] #[]) m).run Tryz.prog w=stored Tryz.prog w a (.func (.func i) #[] #[]) m:=fun w a i m=>run_store Tryz.prog w a _ m rfl
 have sn:∀(w:World) (a:Addr) (m),(store a .nilFunc m).run Tryz.prog w=stored Tryz.prog w a .nilFunc m:=fun w a m=>run_store Tryz.prog w a _ m rfl
 have K:k=0∨k=1∨k=2∨k=3:=by omega
 clear h
 rcases K with rfl|rfl|rfl|rfl
 ·go_enter Tryz.func114,Tryz.ntmps114
  go_wp2
  go_ret
  exact⟨rfl,one_more w _⟩
 ·go_enter Tryz.func114,Tryz.ntmps114
  go_wp2
  go_ret
  exact⟨rfl,one_more w _⟩
 ·go_enter Tryz.func114,Tryz.ntmps114
  go_wp2
  go_ret
  exact⟨rfl,one_more w _⟩
 ·go_enter Tryz.func114,Tryz.ntmps114
  go_wp2
  go_ret
  exact⟨rfl,one_more w _⟩
theorem enStep(k:Int)(args:Array Value)(u:World):(callFunc (stepF k) args).run Tryz.prog u= .ok (.enter (stepF k) args) u:=by
 unfold stepF
 split
 ·exact IRead.enters Tryz.func148 (by kernel_rfl) rfl _ _
 ·split
  ·exact IRead.enters Tryz.func149 (by kernel_rfl) rfl _ _
  ·split
   ·exact IRead.enters Tryz.func150 (by kernel_rfl) rfl _ _
   ·exact IRead.enters Tryz.func151 (by kernel_rfl) rfl _ _
theorem iStepF(w:World)(x:Dx)(t:ByteArray)(k:Int)(hr:RdD w x)(hz:sumZ x.ps≤1048576)(ok:OkD x.room x.ps)(ht:t.size≤9223372036854775807):Calls Tryz.prog (stepF k) #[.agg #[.int .i64 x.room,.slice x.a x.ps.length x.c],.string t] w (ToldD (rawD x.room x.ps t k) w):=by
 unfold stepF rawD
 split
 ·exact iWriteNew w x t hr hz ok ht
 ·split
  ·exact iSyncNew w x t hr hz
  ·split
   ·exact iMoveNew w x t hr hz
   ·exact iClearSegs w x t hr hz
end IFour16
end Go.Proofs.YtppkkmaoaiopaaaGreat
