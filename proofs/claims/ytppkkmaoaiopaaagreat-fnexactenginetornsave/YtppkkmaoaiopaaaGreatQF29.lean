/- Lemmas. -/
import Derived.Test.YtppkkmaoaiopaaaGreatQF17
import Derived.Handy
open Go.ChangeShapes Go.WideShapes Go.ChangeAt Go.RowKit
set_option linter.unusedVariables false
set_option linter.unusedSimpArgs false
set_option maxRecDepth 100000
set_option maxHeartbeats 32000000
namespace Go.Proofs.YtppkkmaoaiopaaaGreat
namespace IPack13
open BMem Bks SPuts11 SNums13 SPack13
open IBalsFit (St one_more)
open IRead (enters)
open Lots (Says says_of)
open SPut11 (lit0)
theorem me_fits(v:Value)(w:World):(Go.method 389 44 v "loop.example/g00110/impl.fits").run Tryz.prog w= .ok (284,v) w:=by kernel_rfl
theorem me_nums(v:Value)(w:World):(Go.method 389 44 v "loop.example/g00110/impl.numbers").run Tryz.prog w= .ok (285,v) w:=by kernel_rfl
theorem en_fits(args:Array Value)(u:World):(callFunc 284 args).run Tryz.prog u= .ok (.enter 284 args) u:=enters Tryz.func284 (by kernel_rfl) rfl _ _
theorem en_nums(args:Array Value)(u:World):(callFunc 285 args).run Tryz.prog u= .ok (.enter 285 args) u:=enters Tryz.func285 (by kernel_rfl) rfl _ _
theorem fitsB(w:World)(x:Bx)(b:Bool)(h:Rd w x)(hb:Says b (Ok x.b)):
  Calls Tryz.prog 284 #[.agg #[.slice (some ⟨x.ga,0,none⟩) x.b.ac.length x.ca,.slice (some ⟨x.gi,0,none⟩) x.b.ic.length x.ci,.slice (some ⟨x.gb,0,none⟩) x.b.bs.length x.cb,.slice (some ⟨x.gl,0,none⟩) x.b.ls.length x.cl,.slice (some ⟨x.gt,0,none⟩) x.b.ts.length x.ct,.int .i64 x.b.lot]] w fun e w'=>e= .returned (.bool b)∧Below w.heap.size w w':=by
 have S0:=zh (St.start h 44)
 have HB:=zh hb
 clear h hb
 obtain⟨c0,c1,c2,c3,c4,c5⟩:=(zu S0).c
 go_enter Tryz.func284,Tryz.ntmps284
 go_wp2_with fail
 refine(IBooksOk.iBooksOk _ x b (zu S0).r (zu HB)).mono ?_
 rintro e u ⟨rfl,bb⟩
 have S1:=zh ((zu S0).step bb)
 clear bb
 go_wp2
 go_ret
 exact⟨rfl,(zu S1).b⟩
theorem packedB(w:World)(x:Bx)(b:Bool)(h:Rd w x)(hb:Says b (Ok x.b)):
  Calls Tryz.prog 168 #[.iface 44 (.agg #[.slice (some ⟨x.ga,0,none⟩) x.b.ac.length x.ca,.slice (some ⟨x.gi,0,none⟩) x.b.ic.length x.ci,.slice (some ⟨x.gb,0,none⟩) x.b.bs.length x.cb,.slice (some ⟨x.gl,0,none⟩) x.b.ls.length x.cl,.slice (some ⟨x.gt,0,none⟩) x.b.ts.length x.ct,.int .i64 x.b.lot])] w fun e w'=>∃a c,e= .returned (.tuple #[.slice a (packB x.b).length c,.bool b])∧VOB.Ob w' w.heap.size a (packB x.b).length c (packB x.b)∧Below w.heap.size w w':=by
 have m1:=me_fits
 have m2:=en_fits
 have m3:=me_nums
 have m4:=en_nums
 have FR:=zh (fitsB w x b h hb)
 have R:=zh h
 have HB:=zh hb
 clear h hb
 cases b with
 |false=>
  have e:packB x.b=[]:=if_neg (fun r=>by have:=(zu HB).of r;simp at this)
  rw[e]
  clear e
  go_enter Tryz.func168,Tryz.ntmps168
  go_wp2_with fail
  refine(zu FR).mono ?_
  rintro e u1 ⟨rfl,bb⟩
  have B1:=zh bb
  have O1:=zh (lit0 u1 w.heap.size bb.size rfl)
  clear bb
  go_wp2
  go_ret2
  exact⟨_,0,rfl,VOB.Ob.of (zu O1),(zu B1).alloc (zu B1).size _⟩
 |true=>
  have ok:=(zu HB).yes
  have e:packB x.b=numsB (nums x.b):=if_pos ok
  rw[e]
  have li:=ok.1
  have SN:=zh (fun u h=>INums13.iNums u x h (fun i hi=>(li.2.2.1.2 i hi).2.2.1))
  have SP:=zh (fun u g c hg hr=>IPuts11.iPutNums u g c (nums x.b) (by have:=nums_len li;omega) hg hr (nums_get li))
  clear e ok li
  generalize nums x.b=ys at *
  go_enter Tryz.func168,Tryz.ntmps168
  go_wp2_with fail
  refine(zu FR).mono ?_
  rintro e u1 ⟨rfl,bb⟩
  have B1:=zh bb
  have R1:=zh ((zu R).below bb)
  clear bb
  go_wp2_with fail
  refine((zu SN) u1 (zu R1)).mono ?_
  rintro e u2 ⟨g2,k2,rfl,o2,bb⟩
  have B2:=zh ((zu B1).trans (bb.mono (zu B1).size))
  have O2:=zh o2
  clear o2 bb
  go_wp2_with fail
  refine((zu SP) u2 g2 k2 (zu O2).lt.2 (zu O2).at).mono ?_
  rintro e u3 ⟨a3,k3,rfl,o3,bb⟩
  have B3:=zh ((zu B2).trans (bb.mono (zu B2).size))
  have O3:=zh (o3.mono (zu B2).size)
  clear bb o3
  go_wp2
  go_ret2
  exact⟨a3,k3,rfl,zu O3,zu B3⟩
theorem iBooksPack(w:World)(x:Bx)(b:Bool)(h:Rd w x)(hb:Says b (Ok x.b)):
  Calls Tryz.prog 144 #[.agg #[.slice (some ⟨x.ga,0,none⟩) x.b.ac.length x.ca,.slice (some ⟨x.gi,0,none⟩) x.b.ic.length x.ci,.slice (some ⟨x.gb,0,none⟩) x.b.bs.length x.cb,.slice (some ⟨x.gl,0,none⟩) x.b.ls.length x.cl,.slice (some ⟨x.gt,0,none⟩) x.b.ts.length x.ct,.int .i64 x.b.lot]] w fun e w'=>∃a c,e= .returned (.tuple #[.slice a (packB x.b).length c,.bool b])∧VOB.Ob w' w.heap.size a (packB x.b).length c (packB x.b)∧Below w.heap.size w w':=by
 have S0:=zh (St.start h 44)
 have PK:=zh (fun u h=>packedB u x b h hb)
 clear h hb
 obtain⟨c0,c1,c2,c3,c4,c5⟩:=(zu S0).c
 go_enter Tryz.func144,Tryz.ntmps144
 go_wp2_with fail
 refine((zu PK) _ (zu S0).r).mono ?_
 rintro e u ⟨a,c,rfl,o,bb⟩
 have S1:=zh ((zu S0).step bb)
 have O1:=zh (o.mono (Nat.le_of_lt (zu S0).s))
 clear bb o c0 c1 c2 c3 c4 c5
 go_wp2
 go_ret2
 exact⟨a,c,rfl,zu O1,(zu S1).b⟩
end IPack13
end Go.Proofs.YtppkkmaoaiopaaaGreat
