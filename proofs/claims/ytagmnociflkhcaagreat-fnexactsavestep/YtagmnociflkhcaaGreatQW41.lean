/- Texts of one proof, one behind the other: ISave16. -/
import Derived.Test.YtagmnociflkhcaaGreatRows
import Derived.Test.YtagmnociflkhcaaGreatQW0
import Derived.Test.YtagmnociflkhcaaGreatQW30
import Derived.Test.YtagmnociflkhcaaGreatQW31
import Derived.Test.YtagmnociflkhcaaGreatQW37
import Derived.Test.YtagmnociflkhcaaGreatQW39
import Derived.Test.YtagmnociflkhcaaGreatQW40
set_option linter.unusedVariables false
set_option linter.unusedSimpArgs false
open Go.ChangeShapes Go.WideShapes Go.ChangeAt Go.RowKit
set_option maxRecDepth 100000
set_option maxHeartbeats 32000000
namespace Go.Proofs.YtagmnociflkhcaaGreat
namespace ISave16
open BMem Bks IBalsFit SNums13 SSave16
open Lots (Says)
open SPack13 (packB)
open SPut11 (numB AtO)
open SSeal11 (sealB)
open SegP15 (okS)
theorem pack_some{b:Bk}(h:Ok b):(packB b).length≠0:=by
 unfold SPack13.packB
 rw[if_pos h]
 unfold SPuts11.numsB
 rw[if_pos (fun i hi=>(SPack13.nums_in h.1 ((nums b).getD i 0) (by simp[List.getD,hi])).1)]
 have e:nums b=(b.ac.length:Int)::(nums b).tail:=by simp[nums]
 rw[e,List.flatMap_cons,List.length_append]
 have:=ISeal11.numB_some b.ac.length
 omega
theorem of_bytesO(w:World)(base:Nat)(a:Option Addr)(n c:Nat)(xs:List Int)(h:VOB.Ob w base a n c xs):(convert 63 9 (.slice a n c)).run Tryz.prog w= .ok (.string (strOfNums xs)) w:=by
 have hl:=h.len
 subst hl
 rcases h.either with⟨rfl,_,rfl⟩|⟨g,rfl,o⟩
 ·have c0:c=0:=by
   rcases h.2 with⟨h1,_⟩|⟨g,c',cur,h1,_⟩
   ·simpa using h1
   ·simp at h1
  subst c0
  simp[convert,go_sem,Conv.bytesToString]
  first|done|rfl|kernel_rfl
 ·exact Conv15.of_bytes w g c xs o.at
theorem iSavePack(w:World)(x:Bx)(f:Int)(b:Bool)(h:Rd w x)(hb:Says b (Ok x.b)):
  Calls Tryz.prog 9 #[.agg #[.int .i64 f,.slice (some ⟨x.ga,0,none⟩) x.b.ac.length x.ca,.slice (some ⟨x.gi,0,none⟩) x.b.ic.length x.ci,.slice (some ⟨x.gb,0,none⟩) x.b.bs.length x.cb,.slice (some ⟨x.gl,0,none⟩) x.b.ls.length x.cl,.slice (some ⟨x.gt,0,none⟩) x.b.ts.length x.ct,.int .i64 x.b.lot]] w fun e w'=>e= .returned (.tuple #[.string (saveD f x.b b).1,.bool (saveD f x.b b).2])∧Below w.heap.size w w':=by
 have S0:=zh (Sv.made h (Below.refl _ w) f 42)
 have PK:=zh (fun u h=>IPack13.iBooksPack u x b h hb)
 have PL:=zh (pack_len2 x.b)
 have PS:=zh (show b=true→(packB x.b).length≠0 from fun e=>pack_some (by rw[e] at hb;exact hb.yes))
 have BI:=zh (body_in (f:=f) x.b)
 have RE:=zh (show saveD f x.b b=if b=true∧okS f=true∧(bodyS f x.b).length≤9000 then(strOfNums (sealB (bodyS f x.b)),true) else(ByteArray.empty,false) from rfl)
 have BE:=zh (show bodyS f x.b=numB f++packB x.b from rfl)
 generalize saveD f x.b b=rr at *
 generalize bodyS f x.b=bo at *
 generalize packB x.b=pk at *
 clear h hb
 have g0:=(zu S0).f
 have g1:=(zu S0).c0
 have g2:=(zu S0).c1
 have g3:=(zu S0).c2
 have g4:=(zu S0).c3
 have g5:=(zu S0).c4
 have g6:=(zu S0).c5
 go_enter Tryz.func9,Tryz.ntmps9
 go_wp2_with fail
 refine(zu PK _ (zu S0).r).mono ?_
 rintro e u ⟨ap,cp,rfl,op,bb⟩
 have S1:=zh ((zu S0).step bb)
 have OP:=zh op
 have us:=bb.size
 clear bb op g0 g1 g2 g3 g4 g5 g6 S0 PK
 have g0:=(zu S1).f
 cases b with
 |false=>
  have E:=zh (show rr=(ByteArray.empty,false) by rw[zu RE,if_neg (fun h=>by simp at h)])
  clear RE
  go_wp2
  go_ret2
  rw[zu E]
  exact⟨rfl,(zu S1).b⟩
 |true=>
  cases sk:okS f with
  |false=>
   have E:=zh (show rr=(ByteArray.empty,false) by rw[zu RE,if_neg (fun h=>by rw[sk] at h;simp at h)])
   have SK:=zh sk
   clear RE sk
   go_wp2_with fail
   refine(ISg15.iSegOk _ f false (zu SK)).mono ?_
   rintro e u ⟨rfl,rfl⟩
   go_wp2
   go_ret2
   rw[zu E]
   exact⟨rfl,(zu S1).b⟩
  |true=>
   have SK:=zh sk
   have f19:0≤f∧f≤19:=of_decide_eq_true sk
   have RR:=zh (show rr=if bo.length≤9000 then(strOfNums (sealB bo),true) else(ByteArray.empty,false) by
    rw[zu RE]
    by_cases q:bo.length≤9000
    ·rw[if_pos ⟨rfl,sk,q⟩,if_pos q]
    ·rw[if_neg (fun h=>q h.2.2),if_neg q])
   clear RE sk
   go_wp2_with fail
   refine(ISg15.iSegOk _ f true (zu SK)).mono ?_
   rintro e u ⟨rfl,rfl⟩
   have NP:=(zu PS) trivial
   obtain⟨gp,rfl,OP1⟩:∃g,ap=some ⟨g,0,none⟩∧Hid (ByteH.Own u w.heap.size g pk.length cp pk):=by
    rcases(zu OP).either with⟨_,h,_⟩|⟨g,h,o⟩
    ·exact absurd h NP
    ·exact⟨g,h,zh (o.mono (by simp))⟩
   clear OP PS us
   have n9:=SPut11.numB_nine (x:=f) (by omega)
   have pl:=zu PL
   have PL9:=zh (show pk.length≤900000∧(numB f).length≤9 from⟨pl,n9⟩)
   obtain⟨fn,hfn⟩:∃fn:Nat,f=(fn:Int):=⟨f.toNat,by omega⟩
   have NF:=zh (show(numB f).length≠0 by rw[hfn];exact ISeal11.numB_some fn)
   have f63:f≤9223372036854775807:=by omega
   clear hfn f19 PL
   go_wp2_with fail
   refine(IPut11.iPutNum _ f f63).mono ?_
   rintro e u1 ⟨a1,c1,rfl,o1,b1⟩
   have S2:=zh ((zu S1).step b1)
   have gpl:=(zu OP1).lt
   have OP2:=zh ((zu OP1).below b1 gpl.2)
   have us1:=b1.size
   have wl:=(zu S1).b.size
   obtain⟨g1,rfl,O1⟩:∃g,a1=some ⟨g,0,none⟩∧Hid (ByteH.Own u1 u.heap.size g (numB f).length c1 (numB f)):=by
    rcases o1.either with⟨_,h,_⟩|⟨g,h,o⟩
    ·exact absurd h (zu NF)
    ·exact⟨g,h,zh o⟩
   have lg:=(zu O1).lt
   clear o1 b1 g0 OP1 S1
   have CB:=zh (Con16.iConcat2 (u1.alloc (.cells #[.slice (some ⟨g1,0,none⟩) (numB f).length c1,.slice (some ⟨gp,0,none⟩) pk.length cp] 63)) u1.heap.size g1 0 (numB f).length c1 gp 0 pk.length cp (numB f) pk rfl rfl (by omega) (by simp) (by simp;omega) (by simp;omega) (ConB11.AtO.below (AtO.of (zu O1).at) (one_more u1 _) lg.2) (ConB11.AtO.below (AtO.of (zu OP2).at) (one_more u1 _) (by omega)) (by simp) (by simp))
   have B2:=zh (show Below w.heap.size w (u1.alloc (.cells #[.slice (some ⟨g1,0,none⟩) (numB f).length c1,.slice (some ⟨gp,0,none⟩) pk.length cp] 63)) from(zu S2).b.trans ((one_more u1 _).mono (by omega)))
   clear n9 pl S2 OP2 O1
   go_wp2_with fail
   generalize u1.alloc (.cells #[.slice (some ⟨g1,0,none⟩) (numB f).length c1,.slice (some ⟨gp,0,none⟩) pk.length cp] 63)=V at *
   refine(zu CB).mono ?_
   rintro e u2 ⟨v2,rfl,o2,b2⟩
   rw[←zu BE] at o2
   obtain⟨a2,c2,rfl,q2⟩:=o2.ob
   have L2:=zh (show bo.length≠0 by rw[zu BE,List.length_append];have:=zu NF;omega)
   have L3:=zh (show bo.length≤900009 by rw[zu BE,List.length_append];have:=zu PL9;omega)
   obtain⟨g2,rfl,Q2⟩:∃g,a2=some ⟨g,0,none⟩∧Hid (ByteH.Own u2 V.heap.size g bo.length c2 bo):=by
    rcases q2.either with⟨_,h,_⟩|⟨g,h,o⟩
    ·exact absurd h (zu L2)
    ·exact⟨g,h,zh o⟩
   have B3:=zh ((zu B2).trans (b2.mono (zu B2).size))
   have SE:=zh (ISeal11.iSeal u2 g2 c2 bo (by have:=zu L3;omega) (zu Q2).lt.2 (fun i hi=>⟨(zu Q2).at i hi,(zu BI) f63 i hi⟩))
   clear o2 q2 b2 CB B2 L2 L3 BE BI NF Q2 PL9
   go_wp2_with fail
   refine(zu SE).mono ?_
   rintro e u3 ⟨a3,c3,rfl,o3,b3⟩
   have B4:=zh ((zu B3).trans (b3.mono (zu B3).size))
   have CV:=fun w' (k:Below u3.heap.size u3 w')=>of_bytesO w' _ a3 _ c3 (sealB bo) (o3.step k)
   have CB:=CV u3 (Below.refl _ _)
   clear o3 b3 SE B3 CV
   by_cases q:bo.length≤9000
   ·have E:=zh (show rr=(strOfNums (sealB bo),true) by rw[zu RR,if_pos q])
    have qd:decide (bo.length≤9000)=true:=decide_eq_true q
    clear RR q
    generalize strOfNums (sealB bo)=st at *
    go_wp2
    go_ret2
    rw[zu E]
    exact⟨rfl,zu B4⟩
   ·have E:=zh (show rr=(ByteArray.empty,false) by rw[zu RR,if_neg q])
    have qd:decide (bo.length≤9000)=false:=decide_eq_false q
    have SE:sealB bo=[]:=if_neg q
    have CE:strOfNums (sealB bo)=ByteArray.empty:=by rw[SE];first|rfl|kernel_rfl
    rw[CE] at CB
    clear RR q SE CE
    go_wp2
    go_ret2
    rw[zu E]
    exact⟨rfl,zu B4⟩
end ISave16
end Go.Proofs.YtagmnociflkhcaaGreat
