/- Texts of one proof, one behind the other: SSave16. -/
import Derived.Test.YtagmnociflkhcaaGreatRows
import Derived.Test.YtagmnociflkhcaaGreatQW0
import Derived.Test.YtagmnociflkhcaaGreatQW15
import Derived.Test.YtagmnociflkhcaaGreatQW23
import Derived.Test.YtagmnociflkhcaaGreatQW27
import Derived.Test.YtagmnociflkhcaaGreatQW30
set_option linter.unusedVariables false
set_option linter.unusedSimpArgs false
open Go.ChangeShapes Go.WideShapes Go.ChangeAt Go.RowKit
set_option maxRecDepth 100000
set_option maxHeartbeats 32000000
namespace Go.Proofs.YtagmnociflkhcaaGreat
namespace SSave16
open BMem Bks IBalsFit SNums13
open Lots (Says)
open SPack13 (packB sBooksPack)
open SPut11 (numB sPutNum wp_catB AtO)
open SSeal11 (sealB sSeal)
open SegP15 (okS)
open SSg16 (sSegOk)
open Conv15 (of_bytes)
noncomputable def bodyS (f:Int) (b:Bk):List Int:=numB f++packB b
noncomputable def saveD (f:Int) (b:Bk) (ok:Bool):ByteArray×Bool:=if ok=true∧okS f=true∧(bodyS f b).length≤9000 then(strOfNums (sealB (bodyS f b)),true) else(ByteArray.empty,false)
theorem numB_in{x:Int}(h:x≤9223372036854775807):∀y∈numB x,0≤y∧y≤255:=by
 unfold SPut11.numB
 split
 ·simp
 ·exact SPut11.numF_in 8 _ (by omega)
theorem pack_in(b:Bk):∀y∈packB b,0≤y∧y≤255:=by
 unfold SPack13.packB
 split
 ·rename_i ok
  unfold SPuts11.numsB
  split
  ·intro y hy
   rw[List.mem_flatMap] at hy
   obtain⟨x,hx,hy⟩:=hy
   have:=SPack13.nums_in ok.1 x hx
   unfold SPack13.Nm at this
   exact numB_in (by omega) y hy
  ·simp
 ·simp
theorem body_in{f:Int}(b:Bk):f≤9223372036854775807→∀i,i<(bodyS f b).length→0≤(bodyS f b).getD i 0∧(bodyS f b).getD i 0≤255:=by
 intro hf i hi
 have:(bodyS f b)[i]∈bodyS f b:=List.getElem_mem hi
 simp only[List.getD,List.getElem?_eq_getElem hi,Option.getD_some]
 generalize (bodyS f b)[i]=y at *
 unfold bodyS at this
 rcases List.mem_append.1 this with h|h
 ·exact numB_in hf y h
 ·exact pack_in b y h
theorem pack_len2(b:Bk):(packB b).length≤900000:=by
 unfold SPack13.packB
 split
 ·rename_i ok
  unfold SPuts11.numsB
  split
  ·have h:=SPuts11.flat_len (nums b) (SPack13.nums_get ok.1) (nums b).length (Nat.le_refl _)
   rw[List.take_length] at h
   have:=SPack13.nums_len ok.1
   omega
  ·simp
 ·simp
structure Sv(w W:World)(g:Nat)(f:Int)(x:Bx):Prop where
 f:W.cell? ⟨g,0,none⟩=some (.int .i64 f)
 c0:W.cell? ⟨g,1,none⟩=some (.slice (some ⟨x.ga,0,none⟩) x.b.ac.length x.ca)
 c1:W.cell? ⟨g,2,none⟩=some (.slice (some ⟨x.gi,0,none⟩) x.b.ic.length x.ci)
 c2:W.cell? ⟨g,3,none⟩=some (.slice (some ⟨x.gb,0,none⟩) x.b.bs.length x.cb)
 c3:W.cell? ⟨g,4,none⟩=some (.slice (some ⟨x.gl,0,none⟩) x.b.ls.length x.cl)
 c4:W.cell? ⟨g,5,none⟩=some (.slice (some ⟨x.gt,0,none⟩) x.b.ts.length x.ct)
 c5:W.cell? ⟨g,6,none⟩=some (.int .i64 x.b.lot)
 r:Rd W x
 b:Below w.heap.size w W
 lt:g<W.heap.size
theorem Sv.step{w W W':World}{g:Nat}{f:Int}{x:Bx}(h:Sv w W g f x)(k:Below W.heap.size W W'):Sv w W' g f x:=
 ⟨(k.cell (p:=⟨g,0,none⟩) h.lt).trans h.f,(k.cell (p:=⟨g,1,none⟩) h.lt).trans h.c0,(k.cell (p:=⟨g,2,none⟩) h.lt).trans h.c1,(k.cell (p:=⟨g,3,none⟩) h.lt).trans h.c2,(k.cell (p:=⟨g,4,none⟩) h.lt).trans h.c3,(k.cell (p:=⟨g,5,none⟩) h.lt).trans h.c4,(k.cell (p:=⟨g,6,none⟩) h.lt).trans h.c5,h.r.below k,h.b.trans (k.mono h.b.size),Nat.lt_of_lt_of_le h.lt k.size⟩
theorem Sv.made{w W:World}{x:Bx}(h:Rd W x)(b:Below w.heap.size w W)(f:Int)(e:TypeId):Sv w (W.alloc (.cells #[.int .i64 f,.slice (some ⟨x.ga,0,none⟩) x.b.ac.length x.ca,.slice (some ⟨x.gi,0,none⟩) x.b.ic.length x.ci,.slice (some ⟨x.gb,0,none⟩) x.b.bs.length x.cb,.slice (some ⟨x.gl,0,none⟩) x.b.ls.length x.cl,.slice (some ⟨x.gt,0,none⟩) x.b.ts.length x.ct,.int .i64 x.b.lot] e)) W.heap.size f x:=
 ⟨by simp,by simp,by simp,by simp,by simp,by simp,by simp,h.alloc _,b.alloc b.size _,by simp⟩
theorem sSavePack(w:World)(x:Bx)(f:Int)(b:Bool)(h:Rd w x)(hb:Says b (Ok x.b)):
  Calls Tryz.prog 7 #[.agg #[.int .i64 f,.slice (some ⟨x.ga,0,none⟩) x.b.ac.length x.ca,.slice (some ⟨x.gi,0,none⟩) x.b.ic.length x.ci,.slice (some ⟨x.gb,0,none⟩) x.b.bs.length x.cb,.slice (some ⟨x.gl,0,none⟩) x.b.ls.length x.cl,.slice (some ⟨x.gt,0,none⟩) x.b.ts.length x.ct,.int .i64 x.b.lot]] w fun e w'=>e= .returned (.tuple #[.string (saveD f x.b b).1,.bool (saveD f x.b b).2])∧Below w.heap.size w w':=by
 have S0:=zh (Sv.made h (Below.refl _ w) f 42)
 have PK:=zh (fun u h=>sBooksPack u x b h hb)
 have PL:=zh (pack_len2 x.b)
 have BI:=zh (body_in (f:=f) x.b)
 have RE:=zh (show saveD f x.b b=if b=true∧okS f=true∧(bodyS f x.b).length≤9000 then(strOfNums (sealB (bodyS f x.b)),true) else(ByteArray.empty,false) from rfl)
 have BE:=zh (show bodyS f x.b=numB f++packB x.b from rfl)
 generalize saveD f x.b b=rr at *
 generalize bodyS f x.b=bo at *
 generalize packB x.b=pk at *
 clear h hb
 have g0:=(zu S0).f
 have g1:=(zu S0).c0
 have g2:=(zu S0).c1
 have g3:=(zu S0).c2
 have g4:=(zu S0).c3
 have g5:=(zu S0).c4
 have g6:=(zu S0).c5
 go_enter Tryz.func7,Tryz.ntmps7
 go_wp2_with fail
 refine(zu PK _ (zu S0).r).mono ?_
 rintro e u ⟨gp,cp,rfl,op,bb⟩
 have S1:=zh ((zu S0).step bb)
 have OP:=zh op
 have us:=bb.size
 clear bb op g0 g1 g2 g3 g4 g5 g6 S0 PK
 cases b with
 |false=>
  have E:=zh (show rr=(ByteArray.empty,false) by rw[zu RE,if_neg (fun h=>by simp at h)])
  clear RE
  go_wp2
  go_ret2
  rw[zu E]
  exact⟨rfl,(zu S1).b⟩
 |true=>
  have g0:=(zu S1).f
  cases sk:okS f with
  |false=>
   have E:=zh (show rr=(ByteArray.empty,false) by rw[zu RE,if_neg (fun h=>by rw[sk] at h;simp at h)])
   have SK:=zh sk
   clear RE sk
   go_wp2_with fail
   refine(sSegOk _ f false (zu SK)).mono ?_
   rintro e u ⟨rfl,rfl⟩
   go_wp2
   go_ret2
   rw[zu E]
   exact⟨rfl,(zu S1).b⟩
  |true=>
   have SK:=zh sk
   have f19:0≤f∧f≤19:=of_decide_eq_true sk
   have RR:=zh (show rr=if bo.length≤9000 then(strOfNums (sealB bo),true) else(ByteArray.empty,false) by
    rw[zu RE]
    by_cases q:bo.length≤9000
    ·rw[if_pos ⟨rfl,sk,q⟩,if_pos q]
    ·rw[if_neg (fun h=>q h.2.2),if_neg q])
   clear RE sk
   go_wp2_with fail
   refine(sSegOk _ f true (zu SK)).mono ?_
   rintro e u ⟨rfl,rfl⟩
   have n9:=SPut11.numB_nine (x:=f) (by omega)
   have pl:=zu PL
   go_wp2_with fail
   refine(sPutNum _ f (by omega)).mono ?_
   rintro e u1 ⟨g1,c1,rfl,o1,b1⟩
   have S2:=zh ((zu S1).step b1)
   have O1:=zh (o1.mono (base':=w.heap.size) (by have:=(zu S1).b.size;omega))
   have OP1:=zh ((zu OP).below b1 (zu OP).lt.2)
   have lg:=o1.lt
   have gpl:=(zu OP).lt
   have us1:=b1.size
   have wl:=(zu S1).b.size
   clear o1 b1 g0 OP S1
   go_wp2_with (first|(at_builtin;refine wp_catB _ rfl _ _ rfl w.heap.size g1 (numB f).length c1 pk.length (numB f) pk gp 0 cp rfl rfl (zu O1) rfl (AtO.of (zu OP1).at) (by omega) (by omega) ?_)|go_in)
   intro g2 c2 w2 o2 gr2 loc2
   have B2:=zh ((zu S2).b.grown gr2 (by omega) (fun j hj=>by cases hj;omega))
   have us2:=gr2.size
   rw[←zu BE] at o2
   have L2:=zh (show(numB f).length+pk.length=bo.length by rw[zu BE];simp)
   have lb:=(zu L2)
   have SE:=zh (show Calls Tryz.prog 24 #[.slice (some ⟨g2,0,none⟩) ((numB f).length+pk.length) c2] w2 fun e w'=>∃g c,e= .returned (.tuple #[.slice (some ⟨g,0,none⟩) (sealB bo).length c,.bool (decide (bo.length≤9000))])∧ByteH.Own w' w2.heap.size g (sealB bo).length c (sealB bo)∧Below w2.heap.size w2 w' from by
    rw[zu L2]
    exact sSeal w2 g2 c2 bo (by omega) o2.lt.2 (fun i hi=>⟨o2.at i hi,(zu BI) (by omega) i hi⟩))
   have L9:=zh (show(sealB bo).length≤1048576∨True from .inr trivial)
   clear o2 gr2 loc2 lb
   generalize (numB f).length+pk.length=m at *
   clear n9 pl L9
   go_wp2_with fail
   refine(zu SE).mono ?_
   rintro e u3 ⟨g3,c3,rfl,o3,b3⟩
   have B3:=zh ((zu B2).trans (b3.mono (zu B2).size))
   have CB:=of_bytes u3 g3 c3 (sealB bo) o3.at
   clear o3 b3 SE
   by_cases q:bo.length≤9000
   ·have E:=zh (show rr=(strOfNums (sealB bo),true) by rw[zu RR,if_pos q])
    have qd:decide (bo.length≤9000)=true:=decide_eq_true q
    clear RR q
    generalize strOfNums (sealB bo)=st at *
    go_wp2
    go_ret2
    rw[zu E]
    exact⟨rfl,zu B3⟩
   ·have E:=zh (show rr=(ByteArray.empty,false) by rw[zu RR,if_neg q])
    have qd:decide (bo.length≤9000)=false:=decide_eq_false q
    clear RR q CB
    go_wp2
    go_ret2
    rw[zu E]
    exact⟨rfl,zu B3⟩
end SSave16
end Go.Proofs.YtagmnociflkhcaaGreat
