/- Texts of one proof, one behind the other: ICom14, IRd14. -/
import Derived.Test.YtagmnociflkhcaaGreatDoorRows
import Derived.Test.YtagmnociflkhcaaGreatDoorCards
import Derived.Test.YtagmnociflkhcaaGreatDoorTie
import Derived.Test.YtagmnociflkhcaaGreatDoorQL0
import Derived.Test.YtagmnociflkhcaaGreatDoorQL20
import Derived.Test.YtagmnociflkhcaaGreatDoorQL21
import Derived.Test.YtagmnociflkhcaaGreatDoorQL28
import Derived.Laws.CopyRow
set_option linter.unusedVariables false
set_option linter.unusedSimpArgs false
open Go.ChangeShapes Go.WideShapes Go.ChangeAt Go.RowKit
set_option maxRecDepth 100000
set_option maxHeartbeats 32000000
namespace Go.Proofs.YtagmnociflkhcaaGreatDoor
namespace ICom14
open Fil14 OpensF14 DiskH14 DkH14 SDk14 SOk14 SRd14 SLess14 SCom14 TabF14 ITb14
theorem iOkB(w:World)(x:Dx)(b:Bool)(hr:RdD w x)(hz:sumZ x.ps≤1048576)(h:decide (OkD x.room x.ps)=b):Calls Tryz.prog 38 #[.agg #[.int .i64 x.room,.slice x.a x.ps.length x.c]] w fun e w'=>e= .returned (.bool b)∧Below w.heap.size w w':=by
 rw[←h]
 exact IOk14.iDiskOk w x hr hz
structure St(w u:World)(x:Dx)(B n:Nat)(f:Int→Option TF):Prop where
 d:Wd w u x
 r:Bc u w.heap.size (w.heap.size+1) (.int .i64 0) (.slice none 0 0)
 t:Tf u B n f
 b:w.heap.size+2≤B
 xa:∀g,x.a=some ⟨g,0,none⟩→g<w.heap.size
theorem St.step{w u u':World}{x:Dx}{B n:Nat}{f:Int→Option TF}(h:St w u x B n f)(k:Below u.heap.size u u'):St w u' x B n f:=
 ⟨h.d.step k,h.r.below k h.r.lt.2,h.t.below k,h.b,h.xa⟩
theorem St.turn{w u u':World}{x:Dx}{B n n':Nat}{f f':Int→Option TF}(h:St w u x B n f)(t:Tf u' B n' f')(g:u.grownBy u' (some B)):St w u' x B n' f':=by
 have hb:=h.b
 exact⟨wd_grown h.d g (by omega) (fun k e=>by have:=h.xa k e;omega),h.r.kept g (by simp;omega),t,hb,h.xa⟩
end ICom14
namespace IRd14
open Fil14 OpensF14 DiskH14 DkH14 SDk14 SOk14 SRd14 App14 SLess14 SCom14 SPut14 TabF14 PTab14 IFile14 ITb14 ICom14
theorem iDiskRead(w:World)(x:Dx)(nm:Int)(hr:RdD w x)(hz:sumZ x.ps≤1048576)(hw:Wf nm):Calls Tryz.prog 20 #[.agg #[.int .i64 x.room,.slice x.a x.ps.length x.c],.int .i64 nm] w fun e w'=>e= .returned (.tuple #[.string (readD x.room x.ps nm).1,.bool (readD x.room x.ps nm).2])∧Below w.heap.size w w':=by
 have W0:=zh (Wd.made hr 39)
 have OK0:=zh (fun b h=>iOkB _ x b (zu W0).r hz h)
 have RE:=zh (show readD x.room x.ps nm=if OkD x.room x.ps∧0≤findF x.ps nm then(bytesAt x.ps (findF x.ps nm).toNat,true) else(ByteArray.empty,false) from rfl)
 have WF:=zh hw
 generalize readD x.room x.ps nm=rr at *
 clear hr hw
 by_cases ok:OkD x.room x.ps
 case neg=>
  obtain rfl:rr=(ByteArray.empty,false):=by rw[zu RE,if_neg (fun h=>ok h.1)]
  have OKD:=zh (decide_eq_false ok)
  clear ok RE
  go_enter Tryz.func20,Tryz.ntmps20
  go_wp2_with fail
  refine((zu OK0) false (zu OKD)).mono ?_
  rintro e u ⟨rfl,b1⟩
  have B:=zh ((zu W0).b.trans (b1.mono (zu W0).b.size))
  clear b1 W0 OK0
  go_wp2
  go_ret2
  exact⟨rfl,zu B⟩
 have OKD:=zh (decide_eq_true ok)
 have TL:=zh (tl_ok ok)
 have WN:=zh (wf_names ok)
 obtain⟨p,b,fn,HP,HI,SZ⟩:∃(p:TF) (b:Bool),rr=(p.2.1++p.2.2,b)∧(tabOf x.ps nm).getD z0=p∧(tabOf x.ps nm).isSome=b∧p.2.1.size+p.2.2.size≤1048576:=by
  by_cases q:findF x.ps nm<0
  ·have FN:=tl_no (zu TL) q
   exact⟨z0,false,by rw[zu RE,if_neg (by omega)];rfl,by rw[FN];rfl,by rw[FN];rfl,by simp⟩
  ·obtain⟨k,ek,kl,en⟩:=findF_in (ps:=x.ps) (nm:=nm) (by omega)
   have FY:=tl_yes (zu TL) kl en
   exact⟨elF x.ps k,true,by rw[zu RE,if_pos ⟨ok,by omega⟩,ek];rfl,by rw[FY];rfl,by rw[FY];rfl,el_size hz kl⟩
 subst fn
 obtain⟨p0,p1,p2⟩:=p
 have HP:=zh HP
 have HI:=zh HI
 clear ok RE TL
 simp only at SZ
 go_enter Tryz.func20,Tryz.ntmps20
 go_wp2_with fail
 refine((zu OK0) true (zu OKD)).mono ?_
 rintro e u ⟨rfl,b1⟩
 have WU:=zh ((zu W0).step b1)
 clear b1 W0 OK0
 have c0:=(zu WU).c0
 have c1:=(zu WU).c1
 have lt:=(zu WU).lt
 go_wp2_with fail
 refine(iTable _ x (zu WU).r (zu WN)).mono ?_
 rintro e u1 ⟨rfl,tt,b2⟩
 have T1:=zh tt
 have B1:=zh (((zu WU).b.trans (b2.mono (zu WU).b.size)).trans ((one_more u1 (.cells #[.int .i64 p0,.string p1,.string p2] 66)).mono (Nat.le_trans (zu WU).b.size b2.size)))
 clear tt b2 WU c0 c1 lt
 go_wp2_with (first|(at_lookup;refine wp_have _ rfl _ _ rfl (u.heap.size+1) _ _ rfl (zu T1) nm rfl (zu WF) _ b (zu HP) (zu HI) ?_)|fail)
 refine(iText _ p0 p1 p2 SZ).mono ?_
 rintro e u3 ⟨rfl,b3⟩
 have B3:=zh ((zu B1).trans (b3.mono (zu B1).size))
 clear b3
 go_wp2
 go_ret2
 exact⟨rfl,zu B3⟩
end IRd14
end Go.Proofs.YtagmnociflkhcaaGreatDoor
