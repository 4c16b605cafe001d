/- Texts of one proof. -/
import Derived.Test.YtlbgfdpcgpijhaaGreatQA8
import Derived.Test.YtlbgfdpcgpijhaaGreatQA9
import Derived.Test.YtlbgfdpcgpijhaaGreatQA10
open Go.ChangeShapes Go.WideShapes Go.ChangeAt Go.RowKit
set_option linter.unusedVariables false
set_option linter.unusedSimpArgs false
set_option maxRecDepth 100000
set_option maxHeartbeats 32000000
namespace Go.Proofs.YtlbgfdpcgpijhaaGreat
namespace ILists
open BMem Bks IRead IHave ITrade
open Lots (Says says_of NoOk)
theorem boxed(w:World)(x:Bx)(e:TypeId):Cl (w.alloc (.cells #[.slice (some ⟨x.ga,0,none⟩) x.b.ac.length x.ca,.slice (some ⟨x.gi,0,none⟩) x.b.ic.length x.ci,.slice (some ⟨x.gb,0,none⟩) x.b.bs.length x.cb,.slice (some ⟨x.gl,0,none⟩) x.b.ls.length x.cl,.slice (some ⟨x.gt,0,none⟩) x.b.ts.length x.ct,.int .i64 x.b.lot] e)) w.heap.size x:=⟨by simp,by simp,by simp,by simp,by simp,by simp⟩
theorem iLists(w:World)(x:Bx)(b:Bool)(h:Rd w x)(hb:Says b (Lists x.b)):
  Calls Tryz.prog 92 #[.agg #[.slice (some ⟨x.ga,0,none⟩) x.b.ac.length x.ca,.slice (some ⟨x.gi,0,none⟩) x.b.ic.length x.ci,.slice (some ⟨x.gb,0,none⟩) x.b.bs.length x.cb,.slice (some ⟨x.gl,0,none⟩) x.b.ls.length x.cl,.slice (some ⟨x.gt,0,none⟩) x.b.ts.length x.ct,.int .i64 x.b.lot]] w fun e w'=>e= .returned (.bool b)∧Below w.heap.size w w':=by
 obtain⟨b0,h0⟩:=Chart.says_of 20 4 x.b.ac
 obtain⟨b1,h1⟩:=Chart.says_of 8 2 x.b.ic
 obtain⟨b2,h2⟩:=Bals.says_of (Bals.Right x.b.bs)
 obtain⟨b3,h3⟩:=says_of (Lots.Right x.b.ls)
 obtain⟨b4,h4⟩:=says_of (TRight x.b.ts)
 have H0:=zh h0
 have H1:=zh h1
 have H2:=zh h2
 have H3:=zh h3
 have H4:=zh h4
 have T:=zh hb
 clear h0 h1 h2 h3 h4 hb
 have R0:=zh (h.alloc (.cells #[.slice (some ⟨x.ga,0,none⟩) x.b.ac.length x.ca,.slice (some ⟨x.gi,0,none⟩) x.b.ic.length x.ci,.slice (some ⟨x.gb,0,none⟩) x.b.bs.length x.cb,.slice (some ⟨x.gl,0,none⟩) x.b.ls.length x.cl,.slice (some ⟨x.gt,0,none⟩) x.b.ts.length x.ct,.int .i64 x.b.lot] 45))
 have C0:=zh (boxed w x 45)
 have B0:=zh ((Below.refl w.heap.size w).alloc (Nat.le_refl _) (.cells #[.slice (some ⟨x.ga,0,none⟩) x.b.ac.length x.ca,.slice (some ⟨x.gi,0,none⟩) x.b.ic.length x.ci,.slice (some ⟨x.gb,0,none⟩) x.b.bs.length x.cb,.slice (some ⟨x.gl,0,none⟩) x.b.ls.length x.cl,.slice (some ⟨x.gt,0,none⟩) x.b.ts.length x.ct,.int .i64 x.b.lot] 45))
 have s0:w.heap.size<(w.alloc (.cells #[.slice (some ⟨x.ga,0,none⟩) x.b.ac.length x.ca,.slice (some ⟨x.gi,0,none⟩) x.b.ic.length x.ci,.slice (some ⟨x.gb,0,none⟩) x.b.bs.length x.cb,.slice (some ⟨x.gl,0,none⟩) x.b.ls.length x.cl,.slice (some ⟨x.gt,0,none⟩) x.b.ts.length x.ct,.int .i64 x.b.lot] 45)).heap.size:=by simp
 have na:=h.na
 have ni:=h.ni
 have nb:=h.nb
 have nl:=h.nl
 have nt:=h.nt
 clear h
 go_enter Tryz.func92,Tryz.ntmps92
 go_wp2_with fail
 refine(AccountIKind.iOks _ x.ga _ x.ca x.b.ac b0 rfl na (zu R0).la (zu R0).ra (zu H0)).mono ?_
 rintro e w1 ⟨rfl,bb⟩
 have R1:=zh ((zu R0).below bb)
 have C1:=zh ((zu C0).below bb s0)
 have B1:=zh ((zu B0).trans (bb.mono (Nat.le_of_lt s0)))
 have s1:w.heap.size<w1.heap.size:=Nat.lt_of_lt_of_le s0 bb.size
 have c1:=(zu C1).c1
 clear bb R0 C0 B0 s0
 cases b0
 ·have F:=zh ((zu T).not (fun hh=>(zu H0).no hh.1))
  clear T
  go_wp2
  go_ret
  exact⟨by rw[zu F];rfl,zu B1⟩
 go_wp2_with fail
 refine(InstrIKind.iOks _ x.gi _ x.ci x.b.ic b1 rfl ni (zu R1).li (zu R1).ri (zu H1)).mono ?_
 rintro e w2 ⟨rfl,bb⟩
 have R2:=zh ((zu R1).below bb)
 have C2:=zh ((zu C1).below bb s1)
 have B2:=zh ((zu B1).trans (bb.mono (Nat.le_of_lt s1)))
 have s2:w.heap.size<w2.heap.size:=Nat.lt_of_lt_of_le s1 bb.size
 have c2:=(zu C2).c2
 clear bb R1 C1 B1 s1
 cases b1
 ·have F:=zh ((zu T).not (fun hh=>(zu H1).no hh.2.1))
  clear T
  go_wp2
  go_ret
  exact⟨by rw[zu F];rfl,zu B2⟩
 go_wp2_with fail
 refine(IOk3.iOk _ x.gb _ x.cb x.b.bs b2 rfl nb (zu R2).lb (zu R2).rb (zu H2)).mono ?_
 rintro e w3 ⟨rfl,bb⟩
 have R3:=zh ((zu R2).below bb)
 have C3:=zh ((zu C2).below bb s2)
 have B3:=zh ((zu B2).trans (bb.mono (Nat.le_of_lt s2)))
 have s3:w.heap.size<w3.heap.size:=Nat.lt_of_lt_of_le s2 bb.size
 have c3:=(zu C3).c3
 clear bb R2 C2 B2 s2
 cases b2
 ·have F:=zh ((zu T).not (fun hh=>(zu H2).no hh.2.2.1))
  clear T
  go_wp2
  go_ret
  exact⟨by rw[zu F];rfl,zu B3⟩
 go_wp2_with fail
 refine(IOk5.iOk _ x.gl _ x.cl x.b.ls b3 rfl nl (zu R3).ll (zu R3).rl (zu H3)).mono ?_
 rintro e w4 ⟨rfl,bb⟩
 have R4:=zh ((zu R3).below bb)
 have C4:=zh ((zu C3).below bb s3)
 have B4:=zh ((zu B3).trans (bb.mono (Nat.le_of_lt s3)))
 have s4:w.heap.size<w4.heap.size:=Nat.lt_of_lt_of_le s3 bb.size
 have c4:=(zu C4).c4
 clear bb R3 C3 B3 s3
 cases b3
 ·have F:=zh ((zu T).not (fun hh=>(zu H3).no hh.2.2.2.1))
  clear T
  go_wp2
  go_ret
  exact⟨by rw[zu F];rfl,zu B4⟩
 go_wp2_with fail
 refine(ITrade.iOk _ x.gt _ x.ct x.b.ts b4 rfl nt (zu R4).lt (zu R4).rt (zu H4)).mono ?_
 rintro e w5 ⟨rfl,bb⟩
 have R5:=zh ((zu R4).below bb)
 have C5:=zh ((zu C4).below bb s4)
 have B5:=zh ((zu B4).trans (bb.mono (Nat.le_of_lt s4)))
 have s5:w.heap.size<w5.heap.size:=Nat.lt_of_lt_of_le s4 bb.size
 have c5:=(zu C5).c5
 clear bb R4 C4 B4 s4
 cases b4
 ·have F:=zh ((zu T).not (fun hh=>(zu H4).no hh.2.2.2.2.1))
  clear T
  go_wp2
  go_ret
  exact⟨by rw[zu F];rfl,zu B5⟩
 by_cases d1:0≤x.b.lot
 ·have hd:decide (x.b.lot≤1000000000)=b:=by
   by_cases d2:x.b.lot≤1000000000
   ·rw[decide_eq_true d2]
    exact((zu T).of ⟨(zu H0).yes,(zu H1).yes,(zu H2).yes,(zu H3).yes,(zu H4).yes,d1,d2⟩).symm
   ·rw[decide_eq_false d2]
    exact((zu T).not (fun hh=>d2 hh.2.2.2.2.2.2)).symm
  clear T
  go_wp2
  go_ret
  exact⟨rfl,zu B5⟩
 ·have F:=zh ((zu T).not (fun hh=>d1 hh.2.2.2.2.2.1))
  have hd:decide (0≤x.b.lot)=false:=decide_eq_false d1
  clear T d1
  go_wp2
  go_ret
  exact⟨by rw[zu F];rfl,zu B5⟩
end ILists
end Go.Proofs.YtlbgfdpcgpijhaaGreat
