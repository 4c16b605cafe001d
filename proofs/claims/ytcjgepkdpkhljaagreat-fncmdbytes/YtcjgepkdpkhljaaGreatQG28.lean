/- Lemmas. -/
import Derived.Test.YtcjgepkdpkhljaaGreatQG27
open Go.ChangeShapes Go.WideShapes Go.ChangeAt Go.RowKit
set_option linter.unusedVariables false
set_option linter.unusedSimpArgs false
set_option maxRecDepth 100000
set_option maxHeartbeats 32000000
namespace Go.Proofs.YtcjgepkdpkhljaaGreat
namespace Zero12
open BMem Bks Ans WkB12 SApp12
theorem okA0(w:World)(a:Option Addr)(c:Nat):Calls Tryz.prog 65 #[.slice a 0 c] w fun e w'=>e= .returned (.bool true)∧w'=w:=by
 go_enter Tryz.func65,Tryz.ntmps65
 go_wp2
 go_loopw [3] (fun i wr=>i= .int .i64 0∧wr=w) (fun _ _=>0)
 case atStart=>exact⟨rfl,rfl⟩
 case round=>
  obtain⟨rfl,rfl⟩:=hrel
  go_wp2
  go_ret
  exact⟨rfl,rfl⟩
theorem okI0(w:World)(a:Option Addr)(c:Nat):Calls Tryz.prog 66 #[.slice a 0 c] w fun e w'=>e= .returned (.bool true)∧w'=w:=by
 go_enter Tryz.func66,Tryz.ntmps66
 go_wp2
 go_loopw [3] (fun i wr=>i= .int .i64 0∧wr=w) (fun _ _=>0)
 case atStart=>exact⟨rfl,rfl⟩
 case round=>
  obtain⟨rfl,rfl⟩:=hrel
  go_wp2
  go_ret
  exact⟨rfl,rfl⟩
theorem okB0(w:World)(a:Option Addr)(c:Nat):Calls Tryz.prog 67 #[.slice a 0 c] w fun e w'=>e= .returned (.bool true)∧w'=w:=by
 go_enter Tryz.func67,Tryz.ntmps67
 go_wp2
 go_loopw [3,4] (fun i _ wr=>i= .int .i64 0∧wr=w) (fun _ _ _=>0)
 case atStart=>exact⟨rfl,rfl⟩
 case round=>
  obtain⟨rfl,rfl⟩:=hrel
  go_wp2
  go_ret
  exact⟨rfl,rfl⟩
theorem okL0(w:World)(a:Option Addr)(c:Nat):Calls Tryz.prog 68 #[.slice a 0 c] w fun e w'=>e= .returned (.bool true)∧w'=w:=by
 go_enter Tryz.func68,Tryz.ntmps68
 go_wp2
 go_loopw [3,4,5,6] (fun _ _ i _ wr=>i= .int .i64 0∧wr=w) (fun _ _ _ _ _=>0)
 case atStart=>exact⟨rfl,rfl⟩
 case round=>
  obtain⟨rfl,rfl⟩:=hrel
  go_wp2
  go_ret
  exact⟨rfl,rfl⟩
theorem okT0(w:World)(a:Option Addr)(c:Nat):Calls Tryz.prog 69 #[.slice a 0 c] w fun e w'=>e= .returned (.bool true)∧w'=w:=by
 go_enter Tryz.func69,Tryz.ntmps69
 go_wp2
 go_loopw [3] (fun i wr=>i= .int .i64 0∧wr=w) (fun _ _=>0)
 case atStart=>exact⟨rfl,rfl⟩
 case round=>
  obtain⟨rfl,rfl⟩:=hrel
  go_wp2
  go_ret
  exact⟨rfl,rfl⟩
theorem nil_box(w:World):Box (w.alloc (.cells #[.slice none 0 0,.slice none 0 0,.slice none 0 0,.slice none 0 0,.slice none 0 0,.int .i64 0] 44)) w.heap.size w.heap.size (.slice none 0 0) (.slice none 0 0) (.slice none 0 0) (.slice none 0 0) (.slice none 0 0) (.int .i64 0):=Box.made _ _ _ _ _ _ (Nat.le_refl _) rfl
theorem bals0(w:World):Calls Tryz.prog 70 #[.agg #[.slice none 0 0,.slice none 0 0,.slice none 0 0,.slice none 0 0,.slice none 0 0,.int .i64 0]] w fun e w'=>e= .returned (.bool true)∧Below w.heap.size w w':=by
 go_enter Tryz.func70,Tryz.ntmps70
 go_wp2
 go_loopw [3] (fun i wr=>i= .int .i64 0∧wr=w.alloc (.cells #[.slice none 0 0,.slice none 0 0,.slice none 0 0,.slice none 0 0,.slice none 0 0,.int .i64 0] 44)) (fun _ _=>0)
 case atStart=>exact⟨rfl,rfl⟩
 case round=>
  obtain⟨rfl,rfl⟩:=hrel
  go_wp2
  go_ret
  exact⟨rfl,one_more _ _⟩
theorem lots0(w:World):Calls Tryz.prog 71 #[.agg #[.slice none 0 0,.slice none 0 0,.slice none 0 0,.slice none 0 0,.slice none 0 0,.int .i64 0]] w fun e w'=>e= .returned (.bool true)∧Below w.heap.size w w':=by
 go_enter Tryz.func71,Tryz.ntmps71
 go_wp2
 go_loopw [3] (fun i wr=>i= .int .i64 0∧wr=w.alloc (.cells #[.slice none 0 0,.slice none 0 0,.slice none 0 0,.slice none 0 0,.slice none 0 0,.int .i64 0] 44)) (fun _ _=>0)
 case atStart=>exact⟨rfl,rfl⟩
 case round=>
  obtain⟨rfl,rfl⟩:=hrel
  go_wp2
  go_loopw [5] (fun i wr=>i= .int .i64 0∧wr=w.alloc (.cells #[.slice none 0 0,.slice none 0 0,.slice none 0 0,.slice none 0 0,.slice none 0 0,.int .i64 0] 44)) (fun _ _=>0)
  case atStart=>exact⟨rfl,rfl⟩
  case round=>
   obtain⟨rfl,rfl⟩:=hrel
   go_wp2
   go_ret
   exact⟨rfl,one_more _ _⟩
theorem l1In_yes(w:World)(x lo hi:Int)(h0:lo≤x)(h1:x≤hi):Calls Tryz.prog 38 #[.int .i64 x,.int .i64 lo,.int .i64 hi] w fun e w'=>e= .returned (.bool true)∧w'=w:=by
 go_enter Tryz.func38,Tryz.ntmps38
 go_wp2
 go_ret
 exact⟨rfl,rfl⟩
theorem booksOk0(w:World):Calls Tryz.prog 45 #[.agg #[.slice none 0 0,.slice none 0 0,.slice none 0 0,.slice none 0 0,.slice none 0 0,.int .i64 0]] w fun e w'=>e= .returned (.bool true)∧Below w.heap.size w w':=by
 have N0:=zh (nil_box w)
 have B0:=zh (one_more w (.cells #[.slice none 0 0,.slice none 0 0,.slice none 0 0,.slice none 0 0,.slice none 0 0,.int .i64 0] 44))
 go_enter Tryz.func45,Tryz.ntmps45
 go_wp2_with fail
 refine(okA0 _ none 0).mono ?_
 rintro e u ⟨rfl,rfl⟩
 go_wp2_with fail
 refine(okI0 _ none 0).mono ?_
 rintro e u ⟨rfl,rfl⟩
 go_wp2_with fail
 refine(okB0 _ none 0).mono ?_
 rintro e u ⟨rfl,rfl⟩
 go_wp2_with fail
 refine(okL0 _ none 0).mono ?_
 rintro e u ⟨rfl,rfl⟩
 go_wp2_with fail
 refine(okT0 _ none 0).mono ?_
 rintro e u ⟨rfl,rfl⟩
 go_wp2_with fail
 refine(l1In_yes _ 0 0 1000000000 (by decide) (by decide)).mono ?_
 rintro e u ⟨rfl,rfl⟩
 go_wp2_with fail
 refine(bals0 _).mono ?_
 rintro e u1 ⟨rfl,bb⟩
 have N1:=zh ((zu N0).below bb (zu N0).lt.2)
 have B1:=zh ((zu B0).trans (bb.mono (zu B0).size))
 clear bb N0 B0
 obtain⟨-,-,-,-,-,-,c0,c1,c2,c3,c4,c5⟩:=box_opn (zu N1)
 go_wp2_with fail
 refine(lots0 _).mono ?_
 rintro e u2 ⟨rfl,bb⟩
 have N2:=zh ((zu N1).below bb (zu N1).lt.2)
 have B2:=zh ((zu B1).trans (bb.mono (zu B1).size))
 clear bb N1 B1 c0 c1 c2 c3 c4 c5
 obtain⟨-,-,-,-,-,-,c0,c1,c2,c3,c4,c5⟩:=box_opn (zu N2)
 go_wp2
 go_loopw [3] (fun i wr=>i= .int .i64 0∧wr=u2) (fun _ _=>0)
 case atStart=>exact⟨rfl,rfl⟩
 case round=>
  obtain⟨rfl,rfl⟩:=hrel
  go_wp2
  go_ret
  exact⟨rfl,zu B2⟩
theorem new0(w:World):Calls Tryz.prog 30 #[] w fun e w'=>e= .returned (.agg #[.slice none 0 0,.slice none 0 0,.slice none 0 0,.slice none 0 0,.slice none 0 0,.int .i64 0])∧Below w.heap.size w w':=by
 obtain⟨-,-,-,-,-,-,c0,c1,c2,c3,c4,c5⟩:=box_opn (nil_box w)
 go_enter Tryz.func30,Tryz.ntmps30
 go_wp2
 refine bodyPost_ret (v:= .agg #[.slice none 0 0,.slice none 0 0,.slice none 0 0,.slice none 0 0,.slice none 0 0,.int .i64 0]) (by simp[results,Tryz.results30,go_sem,c0,c1,c2,c3,c4,c5]) rfl ?_
 exact⟨rfl,one_more _ _⟩
end Zero12
namespace Copy12
open BMem Bks Ans WkB12 SApp12
theorem apAccount(u:World)(g:Nat)(ty:TypeId):(Builtin.append_ #[38,38] ty #[.slice (some ⟨g,0,none⟩) 0 0,.slice none 0 0]).run Tryz.prog u= .ok (.slice (some ⟨g,0,none⟩) 0 0) u:=by kernel_rfl
theorem apInstr(u:World)(g:Nat)(ty:TypeId):(Builtin.append_ #[39,39] ty #[.slice (some ⟨g,0,none⟩) 0 0,.slice none 0 0]).run Tryz.prog u= .ok (.slice (some ⟨g,0,none⟩) 0 0) u:=by kernel_rfl
theorem apBal(u:World)(g:Nat)(ty:TypeId):(Builtin.append_ #[40,40] ty #[.slice (some ⟨g,0,none⟩) 0 0,.slice none 0 0]).run Tryz.prog u= .ok (.slice (some ⟨g,0,none⟩) 0 0) u:=by kernel_rfl
theorem apLot(u:World)(g:Nat)(ty:TypeId):(Builtin.append_ #[41,41] ty #[.slice (some ⟨g,0,none⟩) 0 0,.slice none 0 0]).run Tryz.prog u= .ok (.slice (some ⟨g,0,none⟩) 0 0) u:=by kernel_rfl
theorem apTrade(u:World)(g:Nat)(ty:TypeId):(Builtin.append_ #[42,42] ty #[.slice (some ⟨g,0,none⟩) 0 0,.slice none 0 0]).run Tryz.prog u= .ok (.slice (some ⟨g,0,none⟩) 0 0) u:=by kernel_rfl
theorem copy0(w:World):Calls Tryz.prog 44 #[.agg #[.slice none 0 0,.slice none 0 0,.slice none 0 0,.slice none 0 0,.slice none 0 0,.int .i64 0]] w fun e w'=>∃z:Bx,z.b=⟨[],[],[],[],[],0⟩∧e= .returned (.agg #[.slice (some ⟨z.ga,0,none⟩) z.b.ac.length z.ca,.slice (some ⟨z.gi,0,none⟩) z.b.ic.length z.ci,.slice (some ⟨z.gb,0,none⟩) z.b.bs.length z.cb,.slice (some ⟨z.gl,0,none⟩) z.b.ls.length z.cl,.slice (some ⟨z.gt,0,none⟩) z.b.ts.length z.ct,.int .i64 z.b.lot])∧Ow w' w.heap.size z∧Below w.heap.size w w':=by
 have a1:=apAccount
 have a2:=apInstr
 have a3:=apBal
 have a4:=apLot
 have a5:=apTrade
 go_enter Tryz.func44,Tryz.ntmps44
 go_wp2
 refine bodyPost_ret (v:= .agg #[.slice (some ⟨w.heap.size+1+1+1,0,none⟩) 0 0,.slice (some ⟨w.heap.size+1+1+1+1,0,none⟩) 0 0,.slice (some ⟨w.heap.size+1+1+1+1+1,0,none⟩) 0 0,.slice (some ⟨w.heap.size+1+1+1+1+1+1,0,none⟩) 0 0,.slice (some ⟨w.heap.size+1+1+1+1+1+1+1,0,none⟩) 0 0,.int .i64 0]) (by simp[results,Tryz.results44,go_sem]) rfl ?_
 have b0:Below w.heap.size w (((w.alloc (.cells #[.slice none 0 0,.slice none 0 0,.slice none 0 0,.slice none 0 0,.slice none 0 0,.int .i64 0] 44)).alloc (.cells #[.slice (some ⟨w.heap.size+1+1+1,0,none⟩) 0 0,.slice (some ⟨w.heap.size+1+1+1+1,0,none⟩) 0 0,.slice (some ⟨w.heap.size+1+1+1+1+1,0,none⟩) 0 0,.slice (some ⟨w.heap.size+1+1+1+1+1+1,0,none⟩) 0 0,.slice (some ⟨w.heap.size+1+1+1+1+1+1+1,0,none⟩) 0 0,.int .i64 0] 44)).alloc (.cells #[.slice (some ⟨w.heap.size+1+1+1,0,none⟩) 0 0,.slice (some ⟨w.heap.size+1+1+1+1,0,none⟩) 0 0,.slice (some ⟨w.heap.size+1+1+1+1+1,0,none⟩) 0 0,.slice (some ⟨w.heap.size+1+1+1+1+1+1,0,none⟩) 0 0,.slice (some ⟨w.heap.size+1+1+1+1+1+1+1,0,none⟩) 0 0,.int .i64 0] 44)):=((one_more w _).alloc (by simp) _).alloc (by simp;omega) _
 have z0:(((w.alloc (.cells #[.slice none 0 0,.slice none 0 0,.slice none 0 0,.slice none 0 0,.slice none 0 0,.int .i64 0] 44)).alloc (.cells #[.slice (some ⟨w.heap.size+1+1+1,0,none⟩) 0 0,.slice (some ⟨w.heap.size+1+1+1+1,0,none⟩) 0 0,.slice (some ⟨w.heap.size+1+1+1+1+1,0,none⟩) 0 0,.slice (some ⟨w.heap.size+1+1+1+1+1+1,0,none⟩) 0 0,.slice (some ⟨w.heap.size+1+1+1+1+1+1+1,0,none⟩) 0 0,.int .i64 0] 44)).alloc (.cells #[.slice (some ⟨w.heap.size+1+1+1,0,none⟩) 0 0,.slice (some ⟨w.heap.size+1+1+1+1,0,none⟩) 0 0,.slice (some ⟨w.heap.size+1+1+1+1+1,0,none⟩) 0 0,.slice (some ⟨w.heap.size+1+1+1+1+1+1,0,none⟩) 0 0,.slice (some ⟨w.heap.size+1+1+1+1+1+1+1,0,none⟩) 0 0,.int .i64 0] 44)).heap.size=w.heap.size+1+1+1:=by simp
 generalize (((w.alloc (.cells #[.slice none 0 0,.slice none 0 0,.slice none 0 0,.slice none 0 0,.slice none 0 0,.int .i64 0] 44)).alloc (.cells #[.slice (some ⟨w.heap.size+1+1+1,0,none⟩) 0 0,.slice (some ⟨w.heap.size+1+1+1+1,0,none⟩) 0 0,.slice (some ⟨w.heap.size+1+1+1+1+1,0,none⟩) 0 0,.slice (some ⟨w.heap.size+1+1+1+1+1+1,0,none⟩) 0 0,.slice (some ⟨w.heap.size+1+1+1+1+1+1+1,0,none⟩) 0 0,.int .i64 0] 44)).alloc (.cells #[.slice (some ⟨w.heap.size+1+1+1,0,none⟩) 0 0,.slice (some ⟨w.heap.size+1+1+1+1,0,none⟩) 0 0,.slice (some ⟨w.heap.size+1+1+1+1+1,0,none⟩) 0 0,.slice (some ⟨w.heap.size+1+1+1+1+1+1,0,none⟩) 0 0,.slice (some ⟨w.heap.size+1+1+1+1+1+1+1,0,none⟩) 0 0,.int .i64 0] 44))=U at b0 z0⊢
 refine⟨⟨w.heap.size+1+1+1,0,w.heap.size+1+1+1+1,0,w.heap.size+1+1+1+1+1,0,w.heap.size+1+1+1+1+1+1,0,w.heap.size+1+1+1+1+1+1+1,0,⟨[],[],[],[],[],0⟩⟩,rfl,rfl,?_,?_⟩
 ·have e:=fun(V:World) (ty:TypeId) (s:Nat) (h:w.heap.size≤V.heap.size)=>World.ownsRow_lit (base:=w.heap.size) (e:=ty) (size:=s) V #[] 0 h (by decide) (by simp)
  refine⟨?_,?_,?_,?_,?_⟩
  ·have:=((((e U 112 2 (by omega)).alloc (.cells #[] 113)).alloc (.cells #[] 184)).alloc (.cells #[] 188)).alloc (.cells #[] 82)
   rw[z0] at this
   exact this
  ·have:=(((e (U.alloc (.cells #[] 112)) 113 2 (by simp;omega)).alloc (.cells #[] 184)).alloc (.cells #[] 188)).alloc (.cells #[] 82)
   rw[show(U.alloc (.cells #[] 112)).heap.size=w.heap.size+1+1+1+1 by simp[z0]] at this
   exact this
  ·have:=((e ((U.alloc (.cells #[] 112)).alloc (.cells #[] 113)) 184 3 (by simp;omega)).alloc (.cells #[] 188)).alloc (.cells #[] 82)
   rw[show((U.alloc (.cells #[] 112)).alloc (.cells #[] 113)).heap.size=w.heap.size+1+1+1+1+1 by simp[z0]] at this
   exact this
  ·have:=(e (((U.alloc (.cells #[] 112)).alloc (.cells #[] 113)).alloc (.cells #[] 184)) 188 5 (by simp;omega)).alloc (.cells #[] 82)
   rw[show(((U.alloc (.cells #[] 112)).alloc (.cells #[] 113)).alloc (.cells #[] 184)).heap.size=w.heap.size+1+1+1+1+1+1 by simp[z0]] at this
   exact this
  ·have:=e ((((U.alloc (.cells #[] 112)).alloc (.cells #[] 113)).alloc (.cells #[] 184)).alloc (.cells #[] 188)) 82 8 (by simp;omega)
   rw[show((((U.alloc (.cells #[] 112)).alloc (.cells #[] 113)).alloc (.cells #[] 184)).alloc (.cells #[] 188)).heap.size=w.heap.size+1+1+1+1+1+1+1 by simp[z0]] at this
   exact this
 ·exact((((b0.alloc b0.size _).alloc (by simp;omega) _).alloc (by simp;omega) _).alloc (by simp;omega) _).alloc (by simp;omega) _
end Copy12
namespace DrawN12
open BMem Bks Draw Draw11
open IBalsFit (St)
theorem one_more(w:World)(o:Obj):Below w.heap.size w (w.alloc o):=(Below.refl _ _).alloc (Nat.le_refl _) o
theorem st_grown{w W W':World}{x:Bx}{g:Nat}(H:Rd w x)(h:St w W x)(k:W.grownBy W' (some g))(hg:w.heap.size<g):St w W' x:=by
 have b:Below w.heap.size w W':=h.b.grown k h.b.size (fun j e=>by cases e;omega)
 have n0:some w.heap.size≠some g:=fun e=>by injection e;omega
 exact⟨H.below b,⟨k.cell h.c.c0 n0,k.cell h.c.c1 n0,k.cell h.c.c2 n0,k.cell h.c.c3 n0,k.cell h.c.c4 n0,k.cell h.c.c5 n0⟩,b,Nat.lt_of_lt_of_le h.s k.size⟩
theorem pickC(w0 w:World)(c:Nat)(a:Option Addr)(len cap s m k1:Nat)(ks:Nat→Int)(hl:len≤1048576)(hcode:CodeAt w0 a len)(h:Cur w0 w c a len cap)(m0:1≤m)(m1:m≤1048576)(hs:s<w.heap.size)(hc:s≠c)
  (hk:∀j,j<m→w.cell? ⟨s,j,none⟩=some (.int .i64 (ks j))):
  Calls Tryz.prog 33 #[.pointer (some ⟨c,0,none⟩),.slice (some ⟨s,0,none⟩) m k1] w fun e w'=>(∃j,j<m∧e= .returned (.int .i64 (ks j)))∧Moved w0 w w' c a len cap:=by
 go_enter Tryz.func33,Tryz.ntmps33
 go_wp2_with fail
 refine(below w0 w c a len cap m hl hcode h (by omega)).mono ?_
 rintro e w1 ⟨⟨x,x0,x1,rfl⟩,h1,o1⟩
 obtain⟨k,rfl⟩:=Int.eq_ofNat_of_zero_le x0
 have hc1:=(o1.cell (p:=⟨s,k,none⟩) hs hc).trans (hk k (by omega))
 clear hk
 go_wp2
 go_ret
 exact⟨⟨k,by omega,rfl⟩,h1,o1⟩
theorem any(w0 w:World)(c:Nat)(a:Option Addr)(len cap:Nat)(x:Bx)(kind:Int)(hl:len≤1048576)(hcode:CodeAt w0 a len)(h:Cur w0 w c a len cap)(hr:Rd w x):
  Calls Tryz.prog 34 #[.pointer (some ⟨c,0,none⟩),.agg #[.slice (some ⟨x.ga,0,none⟩) x.b.ac.length x.ca,.slice (some ⟨x.gi,0,none⟩) x.b.ic.length x.ci,.slice (some ⟨x.gb,0,none⟩) x.b.bs.length x.cb,.slice (some ⟨x.gl,0,none⟩) x.b.ls.length x.cl,.slice (some ⟨x.gt,0,none⟩) x.b.ts.length x.ct,.int .i64 x.b.lot],.int .i64 kind] w fun e w'=>(∃v,e= .returned (.int .i64 v))∧Moved w0 w w' c a len cap:=by
 have S0:=zh ((St.start hr 44).step (one_more (w.alloc (.cells #[.slice (some ⟨x.ga,0,none⟩) x.b.ac.length x.ca,.slice (some ⟨x.gi,0,none⟩) x.b.ic.length x.ci,.slice (some ⟨x.gb,0,none⟩) x.b.bs.length x.cb,.slice (some ⟨x.gl,0,none⟩) x.b.ls.length x.cl,.slice (some ⟨x.gt,0,none⟩) x.b.ts.length x.ct,.int .i64 x.b.lot] 44)) (.cells #[] 3)))
 have A0:=zh (SPuts11.lit0I (w.alloc (.cells #[.slice (some ⟨x.ga,0,none⟩) x.b.ac.length x.ca,.slice (some ⟨x.gi,0,none⟩) x.b.ic.length x.ci,.slice (some ⟨x.gb,0,none⟩) x.b.bs.length x.cb,.slice (some ⟨x.gl,0,none⟩) x.b.ls.length x.cl,.slice (some ⟨x.gt,0,none⟩) x.b.ts.length x.ct,.int .i64 x.b.lot] 44)) (w.heap.size+1) (g:=w.heap.size+1) (by simp) (by simp))
 have nn:=hr.na
 have HR:=zh hr
 have HC:=zh h
 have HD:=zh hcode
 clear hr h hcode
 go_enter Tryz.func34,Tryz.ntmps34
 go_wp2
 go_loopw [7,8] (fun l i wr=>∃(q:List Int) (g k1 k:Nat),l= .slice (some ⟨g,0,none⟩) q.length k1∧i= .int .i64 k∧k≤x.b.ac.length∧q.length≤k∧Hid (Ints.Own wr (w.heap.size+1) g q.length k1 q)∧Hid (St w wr x)) (fun _ i _=>x.b.ac.length-(intOf i).toNat)
 case atStart=>exact⟨[],w.heap.size+1,0,0,rfl,rfl,by omega,by simp,A0,S0⟩
 case round=>
  clear A0 S0
  obtain⟨q,g,k1,k,rfl,rfl,hk,ql,OA,S2⟩:=hrel
  obtain⟨c0,c1,c2,c3,c4,c5⟩:=(zu S2).c
  by_cases t:k<x.b.ac.length
  ·obtain⟨d0,d1⟩:=((zu S2).r.ra k t)
   generalize (x.b.ac.getD k (0,0)).1=q0 at *
   generalize (x.b.ac.getD k (0,0)).2=q1 at *
   have kn:(k:Int)<x.b.ac.length:=by omega
   have og:=(zu OA).lt
   have ws:=(zu S2).b.size
   by_cases e:q1=kind
   ·have en:(q1==kind)=true:=by simp[e]
    have EN:=zh e
    clear e
    go_wp2_with (first|(at_builtin;refine SPuts11.wp_appI _ rfl _ _ rfl (w.heap.size+1) g q.length k1 q wr.heap.size q0 rfl rfl (SPuts11.own_allocI (zu OA) _) (by simp) (by omega) (by simp;omega) ?_)|go_in)
    intro g5 c5' w5 o5 gr5 loc5
    have O5:=zh o5
    have S5:=zh (st_grown (zu HR) ((zu S2).step (one_more wr (.cells #[.int .i64 q0] 3))) gr5 (by omega))
    clear o5 gr5 loc5 d0 d1 c0 c1 c2 c3 c4 c5 OA S2
    go_wp2
    go_roundw
    case rel=>exact⟨q++[q0],g5,c5',k+1,by rw[show(q++[q0]).length=q.length+1 by simp],by go_num,by omega,by simp;omega,zh (by rw[show(q++[q0]).length=q.length+1 by simp];exact zu O5),S5⟩
    case measure=>simp[intOf];omega
   ·have en:(q1==kind)=false:=by simp[e]
    have EN:=zh e
    clear e
    go_wp2
    go_roundw
    case rel=>exact⟨q,g,k1,k+1,rfl,by go_num,by omega,by omega,OA,S2⟩
    case measure=>simp[intOf];omega
  ·have M1:=zh (moved_below (moved_start (zu HC)) (zu S2).b)
   have og:=(zu OA).lt
   have at0:=zh (zu OA).at
   have hcs:=(zu HC).hi
   by_cases z:q.length=0
   ·have zn:((q.length:Int)==0)=true:=by simp[z]
    have ZN:=zh z
    clear z
    go_wp2_with fail
    refine(drawNo w0 wr c a len cap hl (zu HD) (zu M1).1).mono ?_
    rintro e u1 ⟨⟨v,rfl⟩,m1⟩
    have M2:=zh ((zu M1).trans m1)
    clear m1
    go_wp2
    go_ret
    exact⟨⟨_,rfl⟩,zu M2⟩
   ·have zn:((q.length:Int)==0)=false:=by simpa using z
    have ZN:=zh z
    clear z
    go_wp2_with fail
    refine(once w0 wr c a len cap 25 hl (zu HD) (zu M1).1 (by decide)).mono ?_
    rintro e u1 ⟨⟨b,rfl⟩,m1⟩
    have M2:=zh ((zu M1).trans m1)
    have cs:=zh (show ∀j,j<q.length→u1.cell? ⟨g,j,none⟩=some (.int .i64 (q.getD j 0)) from fun j hj=>(m1.2.cell (p:=⟨g,j,none⟩) og.2 (by show g≠c;omega)).trans ((zu at0) j hj))
    have us:=m1.2.1
    clear m1
    cases b with
    |true=>
     go_wp2_with fail
     refine(drawNo w0 u1 c a len cap hl (zu HD) (zu M2).1).mono ?_
     rintro e u2 ⟨⟨v,rfl⟩,m1⟩
     have M3:=zh ((zu M2).trans m1)
     clear m1
     go_wp2
     go_ret
     exact⟨⟨_,rfl⟩,zu M3⟩
    |false=>
     go_wp2_with fail
     refine(pickC w0 u1 c a len cap g q.length k1 (fun j=>q.getD j 0) hl (zu HD) (zu M2).1 (by have:=zu ZN;omega) (by omega) (by omega) (by omega) (zu cs)).mono ?_
     rintro e u2 ⟨⟨j,_,rfl⟩,m1⟩
     have M3:=zh ((zu M2).trans m1)
     clear m1
     go_wp2
     go_ret
     exact⟨⟨_,rfl⟩,zu M3⟩
theorem thing(w0 w:World)(c:Nat)(a:Option Addr)(len cap:Nat)(x:Bx)(kind:Int)(hl:len≤1048576)(hcode:CodeAt w0 a len)(h:Cur w0 w c a len cap)(hr:Rd w x):
  Calls Tryz.prog 35 #[.pointer (some ⟨c,0,none⟩),.agg #[.slice (some ⟨x.ga,0,none⟩) x.b.ac.length x.ca,.slice (some ⟨x.gi,0,none⟩) x.b.ic.length x.ci,.slice (some ⟨x.gb,0,none⟩) x.b.bs.length x.cb,.slice (some ⟨x.gl,0,none⟩) x.b.ls.length x.cl,.slice (some ⟨x.gt,0,none⟩) x.b.ts.length x.ct,.int .i64 x.b.lot],.int .i64 kind] w fun e w'=>(∃v,e= .returned (.int .i64 v))∧Moved w0 w w' c a len cap:=by
 have S0:=zh ((St.start hr 44).step (one_more (w.alloc (.cells #[.slice (some ⟨x.ga,0,none⟩) x.b.ac.length x.ca,.slice (some ⟨x.gi,0,none⟩) x.b.ic.length x.ci,.slice (some ⟨x.gb,0,none⟩) x.b.bs.length x.cb,.slice (some ⟨x.gl,0,none⟩) x.b.ls.length x.cl,.slice (some ⟨x.gt,0,none⟩) x.b.ts.length x.ct,.int .i64 x.b.lot] 44)) (.cells #[] 3)))
 have A0:=zh (SPuts11.lit0I (w.alloc (.cells #[.slice (some ⟨x.ga,0,none⟩) x.b.ac.length x.ca,.slice (some ⟨x.gi,0,none⟩) x.b.ic.length x.ci,.slice (some ⟨x.gb,0,none⟩) x.b.bs.length x.cb,.slice (some ⟨x.gl,0,none⟩) x.b.ls.length x.cl,.slice (some ⟨x.gt,0,none⟩) x.b.ts.length x.ct,.int .i64 x.b.lot] 44)) (w.heap.size+1) (g:=w.heap.size+1) (by simp) (by simp))
 have nn:=hr.ni
 have HR:=zh hr
 have HC:=zh h
 have HD:=zh hcode
 clear hr h hcode
 go_enter Tryz.func35,Tryz.ntmps35
 go_wp2
 go_loopw [7,8] (fun l i wr=>∃(q:List Int) (g k1 k:Nat),l= .slice (some ⟨g,0,none⟩) q.length k1∧i= .int .i64 k∧k≤x.b.ic.length∧q.length≤k∧Hid (Ints.Own wr (w.heap.size+1) g q.length k1 q)∧Hid (St w wr x)) (fun _ i _=>x.b.ic.length-(intOf i).toNat)
 case atStart=>exact⟨[],w.heap.size+1,0,0,rfl,rfl,by omega,by simp,A0,S0⟩
 case round=>
  clear A0 S0
  obtain⟨q,g,k1,k,rfl,rfl,hk,ql,OA,S2⟩:=hrel
  obtain⟨c0,c1,c2,c3,c4,c5⟩:=(zu S2).c
  by_cases t:k<x.b.ic.length
  ·obtain⟨d0,d1⟩:=((zu S2).r.ri k t)
   generalize (x.b.ic.getD k (0,0)).1=q0 at *
   generalize (x.b.ic.getD k (0,0)).2=q1 at *
   have kn:(k:Int)<x.b.ic.length:=by omega
   have og:=(zu OA).lt
   have ws:=(zu S2).b.size
   by_cases e:q1=kind
   ·have en:(q1==kind)=true:=by simp[e]
    have EN:=zh e
    clear e
    go_wp2_with (first|(at_builtin;refine SPuts11.wp_appI _ rfl _ _ rfl (w.heap.size+1) g q.length k1 q wr.heap.size q0 rfl rfl (SPuts11.own_allocI (zu OA) _) (by simp) (by omega) (by simp;omega) ?_)|go_in)
    intro g5 c5' w5 o5 gr5 loc5
    have O5:=zh o5
    have S5:=zh (st_grown (zu HR) ((zu S2).step (one_more wr (.cells #[.int .i64 q0] 3))) gr5 (by omega))
    clear o5 gr5 loc5 d0 d1 c0 c1 c2 c3 c4 c5 OA S2
    go_wp2
    go_roundw
    case rel=>exact⟨q++[q0],g5,c5',k+1,by rw[show(q++[q0]).length=q.length+1 by simp],by go_num,by omega,by simp;omega,zh (by rw[show(q++[q0]).length=q.length+1 by simp];exact zu O5),S5⟩
    case measure=>simp[intOf];omega
   ·have en:(q1==kind)=false:=by simp[e]
    have EN:=zh e
    clear e
    go_wp2
    go_roundw
    case rel=>exact⟨q,g,k1,k+1,rfl,by go_num,by omega,by omega,OA,S2⟩
    case measure=>simp[intOf];omega
  ·have M1:=zh (moved_below (moved_start (zu HC)) (zu S2).b)
   have og:=(zu OA).lt
   have at0:=zh (zu OA).at
   have hcs:=(zu HC).hi
   by_cases z:q.length=0
   ·have zn:((q.length:Int)==0)=true:=by simp[z]
    have ZN:=zh z
    clear z
    go_wp2_with fail
    refine(drawNo w0 wr c a len cap hl (zu HD) (zu M1).1).mono ?_
    rintro e u1 ⟨⟨v,rfl⟩,m1⟩
    have M2:=zh ((zu M1).trans m1)
    clear m1
    go_wp2
    go_ret
    exact⟨⟨_,rfl⟩,zu M2⟩
   ·have zn:((q.length:Int)==0)=false:=by simpa using z
    have ZN:=zh z
    clear z
    go_wp2_with fail
    refine(once w0 wr c a len cap 25 hl (zu HD) (zu M1).1 (by decide)).mono ?_
    rintro e u1 ⟨⟨b,rfl⟩,m1⟩
    have M2:=zh ((zu M1).trans m1)
    have cs:=zh (show ∀j,j<q.length→u1.cell? ⟨g,j,none⟩=some (.int .i64 (q.getD j 0)) from fun j hj=>(m1.2.cell (p:=⟨g,j,none⟩) og.2 (by show g≠c;omega)).trans ((zu at0) j hj))
    have us:=m1.2.1
    clear m1
    cases b with
    |true=>
     go_wp2_with fail
     refine(drawNo w0 u1 c a len cap hl (zu HD) (zu M2).1).mono ?_
     rintro e u2 ⟨⟨v,rfl⟩,m1⟩
     have M3:=zh ((zu M2).trans m1)
     clear m1
     go_wp2
     go_ret
     exact⟨⟨_,rfl⟩,zu M3⟩
    |false=>
     go_wp2_with fail
     refine(pickC w0 u1 c a len cap g q.length k1 (fun j=>q.getD j 0) hl (zu HD) (zu M2).1 (by have:=zu ZN;omega) (by omega) (by omega) (by omega) (zu cs)).mono ?_
     rintro e u2 ⟨⟨j,_,rfl⟩,m1⟩
     have M3:=zh ((zu M2).trans m1)
     clear m1
     go_wp2
     go_ret
     exact⟨⟨_,rfl⟩,zu M3⟩
theorem sAbs(w:World)(x:Int):Calls Tryz.prog 60 #[.int .i64 x] w fun e w'=>(∃v,e= .returned (.int .i64 v))∧w'=w:=by
 by_cases h:x<0
 ·go_enter Tryz.func60,Tryz.ntmps60
  go_wp2
  go_ret
  exact⟨⟨_,rfl⟩,rfl⟩
 ·go_enter Tryz.func60,Tryz.ntmps60
  go_wp2
  go_ret
  exact⟨⟨_,rfl⟩,rfl⟩
theorem sMax(w:World)(x y:Int):Calls Tryz.prog 61 #[.int .i64 x,.int .i64 y] w fun e w'=>(∃v,y≤v∧e= .returned (.int .i64 v))∧w'=w:=by
 by_cases h:y<x
 ·go_enter Tryz.func61,Tryz.ntmps61
  go_wp2
  go_ret
  exact⟨⟨x,by omega,rfl⟩,rfl⟩
 ·go_enter Tryz.func61,Tryz.ntmps61
  go_wp2
  go_ret
  exact⟨⟨y,by omega,rfl⟩,rfl⟩
theorem sMin(w:World)(x y:Int):Calls Tryz.prog 62 #[.int .i64 x,.int .i64 y] w fun e w'=>(∃v,e= .returned (.int .i64 v))∧w'=w:=by
 by_cases h:x<y
 ·go_enter Tryz.func62,Tryz.ntmps62
  go_wp2
  go_ret
  exact⟨⟨x,rfl⟩,rfl⟩
 ·go_enter Tryz.func62,Tryz.ntmps62
  go_wp2
  go_ret
  exact⟨⟨y,rfl⟩,rfl⟩
theorem part(w0 w:World)(c:Nat)(a:Option Addr)(len cap:Nat)(x:Bx)(ac ii:Int)(hl:len≤1048576)(hcode:CodeAt w0 a len)(h:Cur w0 w c a len cap)(hr:Rd w x):
  Calls Tryz.prog 36 #[.pointer (some ⟨c,0,none⟩),.agg #[.slice (some ⟨x.ga,0,none⟩) x.b.ac.length x.ca,.slice (some ⟨x.gi,0,none⟩) x.b.ic.length x.ci,.slice (some ⟨x.gb,0,none⟩) x.b.bs.length x.cb,.slice (some ⟨x.gl,0,none⟩) x.b.ls.length x.cl,.slice (some ⟨x.gt,0,none⟩) x.b.ts.length x.ct,.int .i64 x.b.lot],.int .i64 ac,.int .i64 ii] w fun e w'=>(∃v,e= .returned (.int .i64 v))∧Moved w0 w w' c a len cap:=by
 have S0:=zh (St.start hr 44)
 have M1:=zh (moved_below (moved_start h) (zu S0).b)
 have nb:=hr.nb
 have HD:=zh hcode
 clear hr h hcode
 go_enter Tryz.func36,Tryz.ntmps36
 go_wp2_with fail
 refine(Look.sOf _ x.gb x.b.bs.length x.cb x.b.bs ac ii rfl nb (zu S0).r.rb).mono ?_
 rintro e u ⟨rfl,rfl⟩
 generalize Bals.val x.b.bs ac ii=bal at *
 go_wp2_with fail
 refine(below w0 _ c a len cap 8 hl (zu HD) (zu M1).1 (by decide)).mono ?_
 rintro e u1 ⟨⟨r,r0,r1,rfl⟩,m1⟩
 have M2:=zh ((zu M1).trans m1)
 clear m1 S0 M1
 by_cases e0:r=0
 ·have n0:(r==0)=true:=by simp[e0]
  have EE:=zh e0
  clear e0
  go_wp2_with fail
  refine(sAbs _ bal).mono ?_
  rintro e u ⟨⟨v,rfl⟩,rfl⟩
  go_wp2_with fail
  refine(below w0 _ c a len cap 3 hl (zu HD) (zu M2).1 (by decide)).mono ?_
  rintro e u2 ⟨⟨r2,_,_,rfl⟩,m1⟩
  have M3:=zh ((zu M2).trans m1)
  clear m1
  go_wp2
  go_ret
  exact⟨⟨_,rfl⟩,zu M3⟩
 ·have n0:(r==0)=false:=by simp[e0]
  have EE:=zh e0
  clear e0
  by_cases e1:r=1
  ·have n1:(r==1)=true:=by simp[e1]
   have EF:=zh e1
   clear e1
   go_wp2_with fail
   refine(below w0 _ c a len cap 50 hl (zu HD) (zu M2).1 (by decide)).mono ?_
   rintro e u2 ⟨⟨r2,_,_,rfl⟩,m1⟩
   have M3:=zh ((zu M2).trans m1)
   clear m1
   go_wp2
   go_ret
   exact⟨⟨_,rfl⟩,zu M3⟩
  ·have n1:(r==1)=false:=by simp[e1]
   have EF:=zh e1
   clear e1
   go_wp2_with fail
   refine(sMin _ bal 200).mono ?_
   rintro e u ⟨⟨v,rfl⟩,rfl⟩
   go_wp2_with fail
   refine(sMax _ v 1).mono ?_
   rintro e u ⟨⟨v2,hv,rfl⟩,rfl⟩
   go_wp2_with fail
   refine(below w0 _ c a len cap v2 hl (zu HD) (zu M2).1 hv).mono ?_
   rintro e u2 ⟨⟨r2,_,_,rfl⟩,m1⟩
   have M3:=zh ((zu M2).trans m1)
   clear m1
   go_wp2
   go_ret
   exact⟨⟨_,rfl⟩,zu M3⟩
end DrawN12
namespace DrawX12
open BMem Bks Draw Draw11 DrawN12
open Ans (Off)
theorem own1{U:World}{base g:Nat}{y0:Int}(hb:base≤U.heap.size)(hg:g=U.heap.size):Ints.Own (U.alloc (.cells #[.int .i64 y0] 3)) base g 1 1 [y0]:=by
 subst hg
 exact World.ownsRow_lit (base:=base) (size:=1) (e:=3) U #[.int .i64 y0] 1 hb (by decide) rfl
theorem own2{U:World}{base g:Nat}{y0 y1:Int}(hb:base≤U.heap.size)(hg:g=U.heap.size):Ints.Own (U.alloc (.cells #[.int .i64 y0,.int .i64 y1] 3)) base g 2 2 [y0,y1]:=by
 subst hg
 exact World.ownsRow_lit (base:=base) (size:=1) (e:=3) U #[.int .i64 y0,.int .i64 y1] 2 hb (by decide) rfl
theorem own3{U:World}{base g:Nat}{y0 y1 y2:Int}(hb:base≤U.heap.size)(hg:g=U.heap.size):Ints.Own (U.alloc (.cells #[.int .i64 y0,.int .i64 y1,.int .i64 y2] 3)) base g 3 3 [y0,y1,y2]:=by
 subst hg
 exact World.ownsRow_lit (base:=base) (size:=1) (e:=3) U #[.int .i64 y0,.int .i64 y1,.int .i64 y2] 3 hb (by decide) rfl
theorem own4{U:World}{base g:Nat}{y0 y1 y2 y3:Int}(hb:base≤U.heap.size)(hg:g=U.heap.size):Ints.Own (U.alloc (.cells #[.int .i64 y0,.int .i64 y1,.int .i64 y2,.int .i64 y3] 3)) base g 4 4 [y0,y1,y2,y3]:=by
 subst hg
 exact World.ownsRow_lit (base:=base) (size:=1) (e:=3) U #[.int .i64 y0,.int .i64 y1,.int .i64 y2,.int .i64 y3] 4 hb (by decide) rfl
theorem own5{U:World}{base g:Nat}{y0 y1 y2 y3 y4:Int}(hb:base≤U.heap.size)(hg:g=U.heap.size):Ints.Own (U.alloc (.cells #[.int .i64 y0,.int .i64 y1,.int .i64 y2,.int .i64 y3,.int .i64 y4] 3)) base g 5 5 [y0,y1,y2,y3,y4]:=by
 subst hg
 exact World.ownsRow_lit (base:=base) (size:=1) (e:=3) U #[.int .i64 y0,.int .i64 y1,.int .i64 y2,.int .i64 y3,.int .i64 y4] 5 hb (by decide) rfl
theorem own7{U:World}{base g:Nat}{y0 y1 y2 y3 y4 y5 y6:Int}(hb:base≤U.heap.size)(hg:g=U.heap.size):Ints.Own (U.alloc (.cells #[.int .i64 y0,.int .i64 y1,.int .i64 y2,.int .i64 y3,.int .i64 y4,.int .i64 y5,.int .i64 y6] 3)) base g 7 7 [y0,y1,y2,y3,y4,y5,y6]:=by
 subst hg
 exact World.ownsRow_lit (base:=base) (size:=1) (e:=3) U #[.int .i64 y0,.int .i64 y1,.int .i64 y2,.int .i64 y3,.int .i64 y4,.int .i64 y5,.int .i64 y6] 7 hb (by decide) rfl
def K2(t:TypeId)(w:World)(base g:Nat)(v0 v1:Value):Prop:=w.ownsRow base t 2 (.slice (some ⟨g,0,none⟩) 1 1) 1 [v0,v1]
section
variable {t:TypeId} {w w':World} {base g:Nat} {v0 v1:Value}
theorem K2.made(v0 v1:Value)(hb:base≤w.heap.size)(hg:g=w.heap.size):K2 t (w.alloc (.cells #[v0,v1] t)) base g v0 v1:=by
 subst hg
 exact⟨rfl,.inr ⟨w.heap.size,1,#[v0,v1],rfl,hb,heap_alloc_new w _,Nat.le_refl _,by unfold maxLen;omega,rfl,rfl⟩⟩
theorem K2.lt(h:K2 t w base g v0 v1):base≤g∧g<w.heap.size:=World.ownsRow.lt h g rfl
theorem K2.c0(h:K2 t w base g v0 v1):w.cell? ⟨g,0,none⟩=some v0:=(World.ownsRow.cellAt h 0 (by omega)).trans rfl
theorem K2.c1(h:K2 t w base g v0 v1):w.cell? ⟨g,1,none⟩=some v1:=(World.ownsRow.cellAt h 1 (by omega)).trans rfl
theorem K2.opn(h:K2 t w base g v0 v1):w.frozen? ⟨g,0,none⟩=false∧w.frozen? ⟨g,1,none⟩=false∧w.cell? ⟨g,0,none⟩=some v0∧w.cell? ⟨g,1,none⟩=some v1:=⟨World.ownsRow.frozenAt h 0,World.ownsRow.frozenAt h 1,h.c0,h.c1⟩
theorem K2.set0(h:K2 t w base g v0 v1)(u:Value):K2 t (w.setCell ⟨g,0,none⟩ u) base g u v1∧w.grownBy (w.setCell ⟨g,0,none⟩ u) (some g):=World.ownsRow.stored h 0 u
theorem K2.set1(h:K2 t w base g v0 v1)(u:Value):K2 t (w.setCell ⟨g,1,none⟩ u) base g v0 u∧w.grownBy (w.setCell ⟨g,1,none⟩ u) (some g):=World.ownsRow.stored h 1 u
theorem K2.blk(h:K2 t w base g v0 v1)(e:w'.heap[g]?=w.heap[g]?):K2 t w' base g v0 v1:=by
 refine⟨h.1,?_⟩
 rcases h.2 with⟨h1,_⟩|⟨g',c,cur,h1,h2,h3,h4⟩
 ·simp at h1
 ·have e1:g=g':=by simp at h1;exact h1.1
  subst e1
  exact .inr ⟨g,c,cur,h1,h2,e.trans h3,h4⟩
end
theorem rd_only{c:Nat}{w W:World}{x:Bx}(h:Rd w x)(o:Only c w W)(f:Off x c):Rd W x:=by
 have q:∀g i,g<w.heap.size→g≠c→W.cell? ⟨g,i,none⟩=w.cell? ⟨g,i,none⟩:=fun g i hg hc=>o.cell (p:=⟨g,i,none⟩) hg hc
 have z:=o.1
 refine⟨Nat.lt_of_lt_of_le h.la z,fun i hi=>?_,h.na,Nat.lt_of_lt_of_le h.li z,fun i hi=>?_,h.ni,Nat.lt_of_lt_of_le h.lb z,fun i hi=>?_,h.nb,Nat.lt_of_lt_of_le h.ll z,fun i hi=>?_,h.nl,h.hc,h.hm,Nat.lt_of_lt_of_le h.lt z,fun i hi=>?_,h.nt⟩
 ·rw[q _ _ h.la f.1,q _ _ h.la f.1];exact h.ra i hi
 ·rw[q _ _ h.li f.2.1,q _ _ h.li f.2.1];exact h.ri i hi
 ·have:=h.rb i hi
  unfold Triples.Holds3 at this⊢
  simpa only[q _ _ h.lb f.2.2.1] using this
 ·have:=h.rl i hi
  unfold Tup5.Holds5 at this⊢
  simpa only[q _ _ h.ll f.2.2.2.1] using this
 ·have:=h.rt i hi
  unfold Tup8.Holds8 at this⊢
  simpa only[q _ _ h.lt f.2.2.2.2] using this
structure Dn(w0 w W:World)(c:Nat)(a:Option Addr)(len cap:Nat)(x:Bx):Prop where
 mv:Moved w0 w W c a len cap
 hc:c<w.heap.size
 r0:Rd w x
 of:Off x c
 cl:Cl W w.heap.size x
 bx:K2 26 W w.heap.size (w.heap.size+1) (.int .i64 0) (.slice none 0 0)
 h0:w0.heap.size≤w.heap.size
section
variable {w0 w W:World} {c:Nat} {a:Option Addr} {len cap:Nat} {x:Bx}
theorem Dn.r(h:Dn w0 w W c a len cap x):Rd W x:=rd_only h.r0 h.mv.2 h.of
theorem Dn.sz(h:Dn w0 w W c a len cap x):w.heap.size≤W.heap.size:=h.mv.2.1
theorem Dn.six(h:Dn w0 w W c a len cap x):W.cell? ⟨w.heap.size,0,none⟩=some (.slice (some ⟨x.ga,0,none⟩) x.b.ac.length x.ca)∧W.cell? ⟨w.heap.size,1,none⟩=some (.slice (some ⟨x.gi,0,none⟩) x.b.ic.length x.ci)∧W.cell? ⟨w.heap.size,2,none⟩=some (.slice (some ⟨x.gb,0,none⟩) x.b.bs.length x.cb)∧W.cell? ⟨w.heap.size,3,none⟩=some (.slice (some ⟨x.gl,0,none⟩) x.b.ls.length x.cl)∧W.cell? ⟨w.heap.size,4,none⟩=some (.slice (some ⟨x.gt,0,none⟩) x.b.ts.length x.ct)∧W.cell? ⟨w.heap.size,5,none⟩=some (.int .i64 x.b.lot):=⟨h.cl.c0,h.cl.c1,h.cl.c2,h.cl.c3,h.cl.c4,h.cl.c5⟩
theorem Dn.step{W':World}(h:Dn w0 w W c a len cap x)(m:Moved w0 W W' c a len cap):Dn w0 w W' c a len cap x:=by
 have l:=h.bx.lt
 have hc:=h.hc
 have q:∀g i,g<W.heap.size→g≠c→W'.cell? ⟨g,i,none⟩=W.cell? ⟨g,i,none⟩:=fun g i hg hc=>m.2.cell (p:=⟨g,i,none⟩) hg hc
 exact⟨h.mv.trans m,hc,h.r0,h.of,⟨(q _ _ (by omega) (by omega)).trans h.cl.c0,(q _ _ (by omega) (by omega)).trans h.cl.c1,(q _ _ (by omega) (by omega)).trans h.cl.c2,(q _ _ (by omega) (by omega)).trans h.cl.c3,(q _ _ (by omega) (by omega)).trans h.cl.c4,(q _ _ (by omega) (by omega)).trans h.cl.c5⟩,h.bx.blk (m.2.2 _ l.2 (by omega)),h.h0⟩
theorem Dn.drew(h:Dn w0 w W c a len cap x):Dn w0 w W.drew c a len cap x:=h.step ⟨h.mv.1.drew,(Only.refl c W).drew⟩
theorem Dn.alloc(h:Dn w0 w W c a len cap x)(cs:Array Value)(t:TypeId):Dn w0 w (W.alloc (.cells cs t)) c a len cap x:=h.step (Moved.alloc h.mv.1 cs t)
theorem Dn.start(h:Cur w0 w c a len cap)(hr:Rd w x)(f:Off x c):Dn w0 w ((w.alloc (.cells #[.slice (some ⟨x.ga,0,none⟩) x.b.ac.length x.ca,.slice (some ⟨x.gi,0,none⟩) x.b.ic.length x.ci,.slice (some ⟨x.gb,0,none⟩) x.b.bs.length x.cb,.slice (some ⟨x.gl,0,none⟩) x.b.ls.length x.cl,.slice (some ⟨x.gt,0,none⟩) x.b.ts.length x.ct,.int .i64 x.b.lot] 44)).alloc (.cells #[.int .i64 0,.slice none 0 0] 26)) c a len cap x:=by
 have b1:=one_more w (.cells #[.slice (some ⟨x.ga,0,none⟩) x.b.ac.length x.ca,.slice (some ⟨x.gi,0,none⟩) x.b.ic.length x.ci,.slice (some ⟨x.gb,0,none⟩) x.b.bs.length x.cb,.slice (some ⟨x.gl,0,none⟩) x.b.ls.length x.cl,.slice (some ⟨x.gt,0,none⟩) x.b.ts.length x.ct,.int .i64 x.b.lot] 44)
 have b2:=b1.alloc b1.size (.cells #[.int .i64 0,.slice none 0 0] 26)
 exact⟨moved_below (moved_start h) b2,h.hi,hr,f,(ILists.boxed w x 44).below (one_more _ _) (by simp),K2.made _ _ (by simp) (by simp),h.bel.size⟩
theorem Dn.six_of{X:World}(h:Dn w0 w W c a len cap x)(b:Below (w.heap.size+1) W X):X.cell? ⟨w.heap.size,0,none⟩=some (.slice (some ⟨x.ga,0,none⟩) x.b.ac.length x.ca)∧X.cell? ⟨w.heap.size,1,none⟩=some (.slice (some ⟨x.gi,0,none⟩) x.b.ic.length x.ci)∧X.cell? ⟨w.heap.size,2,none⟩=some (.slice (some ⟨x.gb,0,none⟩) x.b.bs.length x.cb)∧X.cell? ⟨w.heap.size,3,none⟩=some (.slice (some ⟨x.gl,0,none⟩) x.b.ls.length x.cl)∧X.cell? ⟨w.heap.size,4,none⟩=some (.slice (some ⟨x.gt,0,none⟩) x.b.ts.length x.ct)∧X.cell? ⟨w.heap.size,5,none⟩=some (.int .i64 x.b.lot):=
 ⟨(b.cell (p:=⟨w.heap.size,0,none⟩) (Nat.lt_succ_self _)).trans h.cl.c0,(b.cell (p:=⟨w.heap.size,1,none⟩) (Nat.lt_succ_self _)).trans h.cl.c1,(b.cell (p:=⟨w.heap.size,2,none⟩) (Nat.lt_succ_self _)).trans h.cl.c2,(b.cell (p:=⟨w.heap.size,3,none⟩) (Nat.lt_succ_self _)).trans h.cl.c3,(b.cell (p:=⟨w.heap.size,4,none⟩) (Nat.lt_succ_self _)).trans h.cl.c4,(b.cell (p:=⟨w.heap.size,5,none⟩) (Nat.lt_succ_self _)).trans h.cl.c5⟩
theorem set2_below(W:World)(B:Nat)(v0 v1:Value)(hB:B≤W.heap.size)(cs:Array Value)(t:TypeId):Below B W (((W.alloc (.cells cs t)).setCell ⟨B,0,none⟩ v0).setCell ⟨B,1,none⟩ v1):=
 ((((Below.refl _ _).alloc hB _).setCell (p:=⟨B,0,none⟩) (Nat.le_refl _) _).setCell (p:=⟨B,1,none⟩) (Nat.le_refl _) _)
theorem Dn.out2(h:Dn w0 w W c a len cap x)(k:Int)(n:Nat)(cs:Array Value):(((W.alloc (.cells cs 3)).setCell ⟨w.heap.size+1,0,none⟩ (.int .i64 k)).setCell ⟨w.heap.size+1,1,none⟩ (.slice (some ⟨W.heap.size,0,none⟩) n n)).cell? ⟨w.heap.size+1,0,none⟩=some (.int .i64 k)∧(((W.alloc (.cells cs 3)).setCell ⟨w.heap.size+1,0,none⟩ (.int .i64 k)).setCell ⟨w.heap.size+1,1,none⟩ (.slice (some ⟨W.heap.size,0,none⟩) n n)).cell? ⟨w.heap.size+1,1,none⟩=some (.slice (some ⟨W.heap.size,0,none⟩) n n)∧Moved w0 w (((W.alloc (.cells cs 3)).setCell ⟨w.heap.size+1,0,none⟩ (.int .i64 k)).setCell ⟨w.heap.size+1,1,none⟩ (.slice (some ⟨W.heap.size,0,none⟩) n n)) c a len cap∧(∀ys,Ints.Own (W.alloc (.cells cs 3)) w.heap.size W.heap.size n n ys→Ints.Own (((W.alloc (.cells cs 3)).setCell ⟨w.heap.size+1,0,none⟩ (.int .i64 k)).setCell ⟨w.heap.size+1,1,none⟩ (.slice (some ⟨W.heap.size,0,none⟩) n n)) w.heap.size W.heap.size n n ys):=by
 have h2:=h.alloc cs 3
 have l:=h.bx.lt
 obtain⟨p1,q1⟩:=h2.bx.set0 (.int .i64 k)
 obtain⟨p2,q2⟩:=p1.set1 (.slice (some ⟨W.heap.size,0,none⟩) n n)
 exact⟨p2.c0,p2.c1,moved_grown (moved_grown h2.mv q1 h.hc (by omega) h.h0) q2 h.hc (by omega) h.h0,fun ys o=>(o.kept q1 (by simp;omega)).kept q2 (by simp;omega)⟩
theorem Dn.out(h:Dn w0 w W c a len cap x)(k:Int)(n:Nat):∀cs:Array Value,(((W.setCell ⟨w.heap.size+1,0,none⟩ (.int .i64 k)).setCell ⟨w.heap.size+1,1,none⟩ (.slice (some ⟨W.heap.size,0,none⟩) n n)).alloc (.cells cs 3)).cell? ⟨w.heap.size+1,0,none⟩=some (.int .i64 k)∧(((W.setCell ⟨w.heap.size+1,0,none⟩ (.int .i64 k)).setCell ⟨w.heap.size+1,1,none⟩ (.slice (some ⟨W.heap.size,0,none⟩) n n)).alloc (.cells cs 3)).cell? ⟨w.heap.size+1,1,none⟩=some (.slice (some ⟨W.heap.size,0,none⟩) n n)∧Moved w0 w (((W.setCell ⟨w.heap.size+1,0,none⟩ (.int .i64 k)).setCell ⟨w.heap.size+1,1,none⟩ (.slice (some ⟨W.heap.size,0,none⟩) n n)).alloc (.cells cs 3)) c a len cap:=by
 intro cs
 obtain⟨p1,q1⟩:=h.bx.set0 (.int .i64 k)
 obtain⟨p2,q2⟩:=p1.set1 (.slice (some ⟨W.heap.size,0,none⟩) n n)
 have b:=one_more ((W.setCell ⟨w.heap.size+1,0,none⟩ (.int .i64 k)).setCell ⟨w.heap.size+1,1,none⟩ (.slice (some ⟨W.heap.size,0,none⟩) n n)) (.cells cs 3)
 have p3:=p2.blk (b.block _ p2.lt.2)
 exact⟨p3.c0,p3.c1,moved_alloc (moved_grown (moved_grown h.mv q1 h.hc (by omega) h.h0) q2 h.hc (by omega) h.h0) cs 3⟩
end
def DrawnC(w0 w:World)(c:Nat)(a:Option Addr)(len cap:Nat)(e:Ending)(w':World):Prop:=
 ∃(k:Int) (g n cp:Nat) (xs:List Int),e= .returned (.agg #[.int .i64 k,.slice (some ⟨g,0,none⟩) n cp])∧Ints.Own w' w.heap.size g n cp xs∧1≤n∧n≤7∧Moved w0 w w' c a len cap
section
variable {P:Program} {ops:Array Oper} {Q:Exit→Act→World→Prop} {md:Region.Mode} {S:World→Prop} {fuel:Nat} {listed:Array Bool} {a:Act} {w:World}
theorem tk(i:Nat){oi:Oper}(v:Value)(hi:ops[i]?=some oi)(hb:(Region.noSelect ops&&(Region.free md ops listed i&&(Region.ready md ops listed).contains i))=true)(hQ:∀c a w,Q (.panic c) (a.put oi.dst v) w→Q (.panic c) a w)(hw:Region.wanted oi (yielded ops a.tmps)=true)(hS:S w)(hy:∀w,S w→(execOp a.eval oi).run P w= .ok (.value v) w)(h:wpAnyH P md ops Q S fuel (listed.setIfInBounds i true) (a.put oi.dst v) w):wpAnyH P md ops Q S (fuel+1) listed a w:=by
 rw[Bool.and_eq_true,Bool.and_eq_true] at hb
 exact wpAnyH_take hi hb.1 hb.2.1 hb.2.2 hQ (.inl ⟨hw,hy⟩) hS h
end
theorem zA{α:Type}(l:List α)(i:Nat)(x:α):l.toArray.setIfInBounds i x=(l.set i x).toArray:=List.setIfInBounds_toArray ..
theorem zB{α:Type}(x y:α)(l:List α):(x::l).set 0 y=y::l:=rfl
theorem zC{α:Type}(x y:α)(l:List α)(n:Nat):(x::l).set (n+1) y=x::l.set n y:=rfl
theorem next(w0 w:World)(c:Nat)(a:Option Addr)(len cap:Nat)(x:Bx)(hl:len≤1048576)(hcode:CodeAt w0 a len)(h:Cur w0 w c a len cap)(hr:Rd w x)(ho:Off x c):
  Calls Tryz.prog 16 #[.pointer (some ⟨c,0,none⟩),.agg #[.slice (some ⟨x.ga,0,none⟩) x.b.ac.length x.ca,.slice (some ⟨x.gi,0,none⟩) x.b.ic.length x.ci,.slice (some ⟨x.gb,0,none⟩) x.b.bs.length x.cb,.slice (some ⟨x.gl,0,none⟩) x.b.ls.length x.cl,.slice (some ⟨x.gt,0,none⟩) x.b.ts.length x.ct,.int .i64 x.b.lot]] w (DrawnC w0 w c a len cap):=by
 have D:=zh (Dn.start h hr ho)
 have HD:=zh hcode
 clear h hr ho hcode
 go_enter Tryz.func16,Tryz.ntmps16
 obtain⟨c0,c1,c2,c3,c4,c5⟩:=(zu D).cl
 go_wp2_with fail
 refine(any w0 _ c a len cap x 1 hl (zu HD) (zu D).mv.1 (zu D).r).mono ?_
 rintro e z101 ⟨⟨h,rfl⟩,m1⟩
 replace D:=zh ((zu D).step m1)
 clear m1 c0 c1 c2 c3 c4 c5
 obtain⟨c0,c1,c2,c3,c4,c5⟩:=(zu D).cl
 go_wp2_with fail
 refine(any w0 _ c a len cap x 1 hl (zu HD) (zu D).mv.1 (zu D).r).mono ?_
 rintro e z102 ⟨⟨g,rfl⟩,m1⟩
 replace D:=zh ((zu D).step m1)
 clear m1 c0 c1 c2 c3 c4 c5
 obtain⟨c0,c1,c2,c3,c4,c5⟩:=(zu D).cl
 go_wp2_with fail
 refine(thing w0 _ c a len cap x 2 hl (zu HD) (zu D).mv.1 (zu D).r).mono ?_
 rintro e z103 ⟨⟨p,rfl⟩,m1⟩
 replace D:=zh ((zu D).step m1)
 clear m1 c0 c1 c2 c3 c4 c5
 obtain⟨c0,c1,c2,c3,c4,c5⟩:=(zu D).cl
 go_wp2_with fail
 refine(thing w0 _ c a len cap x 1 hl (zu HD) (zu D).mv.1 (zu D).r).mono ?_
 rintro e z104 ⟨⟨m,rfl⟩,m1⟩
 replace D:=zh ((zu D).step m1)
 clear m1 c0 c1 c2 c3 c4 c5
 go_wp2_with fail
 refine(below w0 _ c a len cap 3 hl (zu HD) (zu D).mv.1 (by decide)).mono ?_
 rintro e z105 ⟨⟨way,waya,wayb,rfl⟩,m1⟩
 replace D:=zh ((zu D).step m1)
 clear m1
 have wayq:IntKind.i64.wrap (1+way)=1+way:=by rw[IntKind.wrap_i64];omega
 have wayw:wrap64 (1+way)=1+way:=by rw[wrap64];omega
 go_wp2_with fail
 refine(below w0 _ c a len cap 24 hl (zu HD) (zu D).mv.1 (by decide)).mono ?_
 rintro e z106 ⟨⟨r,ra,rb,rfl⟩,m1⟩
 replace D:=zh ((zu D).step m1)
 clear m1
 have hrr:(r=0)∨(r=1)∨(r=2∨r=3∨r=4)∨(r=5∨r=6)∨(r=7∨r=8)∨(r=9)∨(r=14)∨(r=18∨r=19)∨(r=23)∨(r=10∨r=11∨r=12∨r=13)∨(r=20)∨(r=21∨r=22)∨(r=15∨r=16∨r=17):=by omega
 clear ra rb
 rcases hrr with hrr|hrr|hrr|hrr|hrr|hrr|hrr|hrr|hrr|hrr|hrr|hrr|hrr
 ·rcases hrr with rfl
  go_wp2_with fail
  refine(below w0 _ c a len cap 20 hl (zu HD) (zu D).mv.1 (by decide)).mono ?_
  rintro e z1 ⟨⟨b1,b1a,b1b,rfl⟩,m1⟩
  replace D:=zh ((zu D).step m1)
  clear m1
  have b1q:IntKind.i64.wrap (1+b1)=1+b1:=by rw[IntKind.wrap_i64];omega
  have b1w:wrap64 (1+b1)=1+b1:=by rw[wrap64];omega
  go_wp2_with fail
  refine(below w0 _ c a len cap 4 hl (zu HD) (zu D).mv.1 (by decide)).mono ?_
  rintro e z2 ⟨⟨b2,b2a,b2b,rfl⟩,m1⟩
  replace D:=zh ((zu D).step m1)
  clear m1
  have b2q:IntKind.i64.wrap (1+b2)=1+b2:=by rw[IntKind.wrap_i64];omega
  have b2w:wrap64 (1+b2)=1+b2:=by rw[wrap64];omega
  obtain⟨f0,f1,d0,d1⟩:=(zu D).bx.opn
  have lt:=(zu D).bx.lt
  have Z:=zh ((zu D).out 1 2)
  have Z0:=fun cs=>((zu Z) cs).1
  have Z1:=fun cs=>((zu Z) cs).2.1
  go_wp2
  refine bodyPost_ret (v:= .agg #[.int .i64 1,.slice (some ⟨z2.heap.size,0,none⟩) 2 2]) (by simp[results,Tryz.results16,go_sem,Z0,Z1]) rfl ?_
  exact⟨1,_,2,2,_,rfl,own2 (by have:=(zu D).sz;simpa using this) (by simp),by decide,by decide,((zu Z) _).2.2⟩
 ·rcases hrr with rfl
  go_wp2_with fail
  refine(below w0 _ c a len cap 8 hl (zu HD) (zu D).mv.1 (by decide)).mono ?_
  rintro e z3 ⟨⟨b1,b1a,b1b,rfl⟩,m1⟩
  replace D:=zh ((zu D).step m1)
  clear m1
  have b1q:IntKind.i64.wrap (1+b1)=1+b1:=by rw[IntKind.wrap_i64];omega
  have b1w:wrap64 (1+b1)=1+b1:=by rw[wrap64];omega
  go_wp2_with fail
  refine(below w0 _ c a len cap 2 hl (zu HD) (zu D).mv.1 (by decide)).mono ?_
  rintro e z4 ⟨⟨b2,b2a,b2b,rfl⟩,m1⟩
  replace D:=zh ((zu D).step m1)
  clear m1
  have b2q:IntKind.i64.wrap (1+b2)=1+b2:=by rw[IntKind.wrap_i64];omega
  have b2w:wrap64 (1+b2)=1+b2:=by rw[wrap64];omega
  obtain⟨f0,f1,d0,d1⟩:=(zu D).bx.opn
  have lt:=(zu D).bx.lt
  have Z:=zh ((zu D).out 2 2)
  have Z0:=fun cs=>((zu Z) cs).1
  have Z1:=fun cs=>((zu Z) cs).2.1
  go_wp2
  refine bodyPost_ret (v:= .agg #[.int .i64 2,.slice (some ⟨z4.heap.size,0,none⟩) 2 2]) (by simp[results,Tryz.results16,go_sem,Z0,Z1]) rfl ?_
  exact⟨2,_,2,2,_,rfl,own2 (by have:=(zu D).sz;simpa using this) (by simp),by decide,by decide,((zu Z) _).2.2⟩
 ·rcases hrr with rfl|rfl|rfl
  all_goals
   obtain⟨c0,c1,c2,c3,c4,c5⟩:=(zu D).cl
   go_wp2_with fail
   refine(any w0 _ c a len cap x 2 hl (zu HD) (zu D).mv.1 (zu D).r).mono ?_
   rintro e z5 ⟨⟨g1,rfl⟩,m1⟩
   replace D:=zh ((zu D).step m1)
   clear m1 c0 c1 c2 c3 c4 c5
   go_wp2_with fail
   refine(below w0 _ c a len cap 100 hl (zu HD) (zu D).mv.1 (by decide)).mono ?_
   rintro e z6 ⟨⟨b1,b1a,b1b,rfl⟩,m1⟩
   replace D:=zh ((zu D).step m1)
   clear m1
   have b1q:IntKind.i64.wrap (1+b1)=1+b1:=by rw[IntKind.wrap_i64];omega
   have b1w:wrap64 (1+b1)=1+b1:=by rw[wrap64];omega
   go_wp2_with fail
   refine(below w0 _ c a len cap 900 hl (zu HD) (zu D).mv.1 (by decide)).mono ?_
   rintro e z7 ⟨⟨b2,b2a,b2b,rfl⟩,m1⟩
   replace D:=zh ((zu D).step m1)
   clear m1
   obtain⟨f0,f1,d0,d1⟩:=(zu D).bx.opn
   have lt:=(zu D).bx.lt
   have Z:=zh ((zu D).out 3 5)
   have Z0:=fun cs=>((zu Z) cs).1
   have Z1:=fun cs=>((zu Z) cs).2.1
   go_wp2
   refine bodyPost_ret (v:= .agg #[.int .i64 3,.slice (some ⟨z7.heap.size,0,none⟩) 5 5]) (by simp[results,Tryz.results16,go_sem,Z0,Z1]) rfl ?_
   exact⟨3,_,5,5,_,rfl,own5 (by have:=(zu D).sz;simpa using this) (by simp),by decide,by decide,((zu Z) _).2.2⟩
 ·rcases hrr with rfl|rfl
  all_goals
   obtain⟨c0,c1,c2,c3,c4,c5⟩:=(zu D).cl
   go_wp2_with fail
   refine(any w0 _ c a len cap x 2 hl (zu HD) (zu D).mv.1 (zu D).r).mono ?_
   rintro e z8 ⟨⟨g1,rfl⟩,m1⟩
   replace D:=zh ((zu D).step m1)
   clear m1 c0 c1 c2 c3 c4 c5
   go_wp2_with fail
   refine(below w0 _ c a len cap 5000 hl (zu HD) (zu D).mv.1 (by decide)).mono ?_
   rintro e z9 ⟨⟨b1,b1a,b1b,rfl⟩,m1⟩
   replace D:=zh ((zu D).step m1)
   clear m1
   have b1q:IntKind.i64.wrap (1+b1)=1+b1:=by rw[IntKind.wrap_i64];omega
   have b1w:wrap64 (1+b1)=1+b1:=by rw[wrap64];omega
   obtain⟨f0,f1,d0,d1⟩:=(zu D).bx.opn
   have lt:=(zu D).bx.lt
   have Z:=zh ((zu D).out 3 5)
   have Z0:=fun cs=>((zu Z) cs).1
   have Z1:=fun cs=>((zu Z) cs).2.1
   go_wp2
   refine bodyPost_ret (v:= .agg #[.int .i64 3,.slice (some ⟨z9.heap.size,0,none⟩) 5 5]) (by simp[results,Tryz.results16,go_sem,Z0,Z1]) rfl ?_
   exact⟨3,_,5,5,_,rfl,own5 (by have:=(zu D).sz;simpa using this) (by simp),by decide,by decide,((zu Z) _).2.2⟩
 ·rcases hrr with rfl|rfl
  all_goals
   obtain⟨c0,c1,c2,c3,c4,c5⟩:=(zu D).cl
   go_wp2_with fail
   refine(DrawN12.part w0 _ c a len cap x h p hl (zu HD) (zu D).mv.1 (zu D).r).mono ?_
   rintro e z10 ⟨⟨g1,rfl⟩,m1⟩
   replace D:=zh ((zu D).step m1)
   clear m1 c0 c1 c2 c3 c4 c5
   obtain⟨f0,f1,d0,d1⟩:=(zu D).bx.opn
   have lt:=(zu D).bx.lt
   have Z:=zh ((zu D).out 4 5)
   have Z0:=fun cs=>((zu Z) cs).1
   have Z1:=fun cs=>((zu Z) cs).2.1
   go_wp2
   refine bodyPost_ret (v:= .agg #[.int .i64 4,.slice (some ⟨z10.heap.size,0,none⟩) 5 5]) (by simp[results,Tryz.results16,go_sem,Z0,Z1]) rfl ?_
   exact⟨4,_,5,5,_,rfl,own5 (by have:=(zu D).sz;simpa using this) (by simp),by decide,by decide,((zu Z) _).2.2⟩
 ·rcases hrr with rfl
  obtain⟨c0,c1,c2,c3,c4,c5⟩:=(zu D).cl
  go_wp2_with fail
  refine(DrawN12.part w0 _ c a len cap x h m hl (zu HD) (zu D).mv.1 (zu D).r).mono ?_
  rintro e z11 ⟨⟨g1,rfl⟩,m1⟩
  replace D:=zh ((zu D).step m1)
  clear m1 c0 c1 c2 c3 c4 c5
  obtain⟨f0,f1,d0,d1⟩:=(zu D).bx.opn
  have lt:=(zu D).bx.lt
  have Z:=zh ((zu D).out 4 5)
  have Z0:=fun cs=>((zu Z) cs).1
  have Z1:=fun cs=>((zu Z) cs).2.1
  go_wp2
  refine bodyPost_ret (v:= .agg #[.int .i64 4,.slice (some ⟨z11.heap.size,0,none⟩) 5 5]) (by simp[results,Tryz.results16,go_sem,Z0,Z1]) rfl ?_
  exact⟨4,_,5,5,_,rfl,own5 (by have:=(zu D).sz;simpa using this) (by simp),by decide,by decide,((zu Z) _).2.2⟩
 ·rcases hrr with rfl
  go_wp2_with fail
  refine(below w0 _ c a len cap 40 hl (zu HD) (zu D).mv.1 (by decide)).mono ?_
  rintro e z12 ⟨⟨b1,b1a,b1b,rfl⟩,m1⟩
  replace D:=zh ((zu D).step m1)
  clear m1
  have b1q:IntKind.i64.wrap (1+b1)=1+b1:=by rw[IntKind.wrap_i64];omega
  have b1w:wrap64 (1+b1)=1+b1:=by rw[wrap64];omega
  obtain⟨f0,f1,d0,d1⟩:=(zu D).bx.opn
  have lt:=(zu D).bx.lt
  have Z:=zh ((zu D).out 6 1)
  have Z0:=fun cs=>((zu Z) cs).1
  have Z1:=fun cs=>((zu Z) cs).2.1
  go_wp2
  refine bodyPost_ret (v:= .agg #[.int .i64 6,.slice (some ⟨z12.heap.size,0,none⟩) 1 1]) (by simp[results,Tryz.results16,go_sem,Z0,Z1]) rfl ?_
  exact⟨6,_,1,1,_,rfl,own1 (by have:=(zu D).sz;simpa using this) (by simp),by decide,by decide,((zu Z) _).2.2⟩
 ·rcases hrr with rfl|rfl
  all_goals
   go_wp2_with fail
   refine(below w0 _ c a len cap 20 hl (zu HD) (zu D).mv.1 (by decide)).mono ?_
   rintro e z13 ⟨⟨b1,b1a,b1b,rfl⟩,m1⟩
   replace D:=zh ((zu D).step m1)
   clear m1
   have b1q:IntKind.i64.wrap (1+b1)=1+b1:=by rw[IntKind.wrap_i64];omega
   have b1w:wrap64 (1+b1)=1+b1:=by rw[wrap64];omega
   go_wp2_with fail
   refine(below w0 _ c a len cap 40 hl (zu HD) (zu D).mv.1 (by decide)).mono ?_
   rintro e z14 ⟨⟨b2,b2a,b2b,rfl⟩,m1⟩
   replace D:=zh ((zu D).step m1)
   clear m1
   have b2q:IntKind.i64.wrap (10+b2)=10+b2:=by rw[IntKind.wrap_i64];omega
   have b2w:wrap64 (10+b2)=10+b2:=by rw[wrap64];omega
   obtain⟨f0,f1,d0,d1⟩:=(zu D).bx.opn
   have lt:=(zu D).bx.lt
   have Z:=zh ((zu D).out 8 3)
   have Z0:=fun cs=>((zu Z) cs).1
   have Z1:=fun cs=>((zu Z) cs).2.1
   go_wp2
   refine bodyPost_ret (v:= .agg #[.int .i64 8,.slice (some ⟨z14.heap.size,0,none⟩) 3 3]) (by simp[results,Tryz.results16,go_sem,Z0,Z1]) rfl ?_
   exact⟨8,_,3,3,_,rfl,own3 (by have:=(zu D).sz;simpa using this) (by simp),by decide,by decide,((zu Z) _).2.2⟩
 ·rcases hrr with rfl
  obtain⟨c0,c1,c2,c3,c4,c5⟩:=(zu D).cl
  go_wp2_with fail
  refine(any w0 _ c a len cap x 2 hl (zu HD) (zu D).mv.1 (zu D).r).mono ?_
  rintro e z15 ⟨⟨g1,rfl⟩,m1⟩
  replace D:=zh ((zu D).step m1)
  clear m1 c0 c1 c2 c3 c4 c5
  go_wp2_with fail
  refine(below w0 _ c a len cap 500 hl (zu HD) (zu D).mv.1 (by decide)).mono ?_
  rintro e z16 ⟨⟨b1,b1a,b1b,rfl⟩,m1⟩
  replace D:=zh ((zu D).step m1)
  clear m1
  obtain⟨f0,f1,d0,d1⟩:=(zu D).bx.opn
  have lt:=(zu D).bx.lt
  have Z:=zh ((zu D).out 11 4)
  have Z0:=fun cs=>((zu Z) cs).1
  have Z1:=fun cs=>((zu Z) cs).2.1
  go_wp2
  refine bodyPost_ret (v:= .agg #[.int .i64 11,.slice (some ⟨z16.heap.size,0,none⟩) 4 4]) (by simp[results,Tryz.results16,go_sem,Z0,Z1]) rfl ?_
  exact⟨11,_,4,4,_,rfl,own4 (by have:=(zu D).sz;simpa using this) (by simp),by decide,by decide,((zu Z) _).2.2⟩
 ·rcases hrr with rfl|rfl|rfl|rfl
  all_goals
   go_wp2_with fail
   replace D:=zh (zu D).drew
   refine wp_region_held_drew (S:=(fun w'=>w'.cell? ⟨w.heap.size,0,none⟩=some (.slice (some ⟨x.ga,0,none⟩) x.b.ac.length x.ca)∧w'.cell? ⟨w.heap.size,1,none⟩=some (.slice (some ⟨x.gi,0,none⟩) x.b.ic.length x.ci)∧w'.cell? ⟨w.heap.size,2,none⟩=some (.slice (some ⟨x.gb,0,none⟩) x.b.bs.length x.cb)∧w'.cell? ⟨w.heap.size,3,none⟩=some (.slice (some ⟨x.gl,0,none⟩) x.b.ls.length x.cl)∧w'.cell? ⟨w.heap.size,4,none⟩=some (.slice (some ⟨x.gt,0,none⟩) x.b.ts.length x.ct)∧w'.cell? ⟨w.heap.size,5,none⟩=some (.int .i64 x.b.lot))) (by kernel_rfl) (zu D).six (fun hHeld=>?_)
   refine tk 0 (.pointer (some ⟨c,0,none⟩)) rfl (by kernel_rfl) (fun _ _ _ h=>h) (by rfl) hHeld (fun w hSw=>by go_simp) ?_
   refine tk 3 (.int .i64 h) rfl (by kernel_rfl) (fun _ _ _ h=>h) (by rfl) hHeld (fun w hSw=>by go_simp) ?_
   refine tk 4 (.int .i64 g) rfl (by kernel_rfl) (fun _ _ _ h=>h) (by rfl) hHeld (fun w hSw=>by go_simp) ?_
   refine tk 5 (.int .i64 p) rfl (by kernel_rfl) (fun _ _ _ h=>h) (by rfl) hHeld (fun w hSw=>by go_simp) ?_
   refine tk 6 (.pointer (some ⟨c,0,none⟩)) rfl (by kernel_rfl) (fun _ _ _ h=>h) (by rfl) hHeld (fun w hSw=>by go_simp) ?_
   refine tk 7 (.agg #[.slice (some ⟨x.ga,0,none⟩) x.b.ac.length x.ca,.slice (some ⟨x.gi,0,none⟩) x.b.ic.length x.ci,.slice (some ⟨x.gb,0,none⟩) x.b.bs.length x.cb,.slice (some ⟨x.gl,0,none⟩) x.b.ls.length x.cl,.slice (some ⟨x.gt,0,none⟩) x.b.ts.length x.ct,.int .i64 x.b.lot]) rfl (by kernel_rfl) (fun _ _ _ h=>h) (by rfl) hHeld (fun w hSw=>by go_simp) ?_
   refine tk 8 (.int .i64 g) rfl (by kernel_rfl) (fun _ _ _ h=>h) (by rfl) hHeld (fun w hSw=>by go_simp) ?_
   refine tk 9 (.int .i64 p) rfl (by kernel_rfl) (fun _ _ _ h=>h) (by rfl) hHeld (fun w hSw=>by go_simp) ?_
   refine tk 11 (.int .i64 m) rfl (by kernel_rfl) (fun _ _ _ h=>h) (by rfl) hHeld (fun w hSw=>by go_simp) ?_
   refine tk 12 (.pointer (some ⟨c,0,none⟩)) rfl (by kernel_rfl) (fun _ _ _ h=>h) (by rfl) hHeld (fun w hSw=>by go_simp) ?_
   refine tk 13 (.agg #[.slice (some ⟨x.ga,0,none⟩) x.b.ac.length x.ca,.slice (some ⟨x.gi,0,none⟩) x.b.ic.length x.ci,.slice (some ⟨x.gb,0,none⟩) x.b.bs.length x.cb,.slice (some ⟨x.gl,0,none⟩) x.b.ls.length x.cl,.slice (some ⟨x.gt,0,none⟩) x.b.ts.length x.ct,.int .i64 x.b.lot]) rfl (by kernel_rfl) (fun _ _ _ h=>h) (by rfl) hHeld (fun w hSw=>by go_simp) ?_
   refine tk 14 (.int .i64 h) rfl (by kernel_rfl) (fun _ _ _ h=>h) (by rfl) hHeld (fun w hSw=>by go_simp) ?_
   refine tk 15 (.int .i64 m) rfl (by kernel_rfl) (fun _ _ _ h=>h) (by rfl) hHeld (fun w hSw=>by go_simp) ?_
   try simp only[Act.put,zA,zB,zC]
   refine wpAnyH_ready (rs:=[1]) (by kernel_rfl) (by simp) ?_
   refine AllReadyH.cons rfl (fun K hK=>?_) AllReadyH.nil
   go_simp
   go_wp2_with fail
   refine(below w0 _ c a len cap 40 hl (zu HD) (zu D).mv.1 (by decide)).mono ?_
   rintro e z17 ⟨⟨b1,b1a,b1b,rfl⟩,m1⟩
   replace D:=zh ((zu D).step m1)
   clear m1
   have b1q:IntKind.i64.wrap (1+b1)=1+b1:=by rw[IntKind.wrap_i64];omega
   have b1w:wrap64 (1+b1)=1+b1:=by rw[wrap64];omega
   go_wp2_with fail
   refine hK.out _ _ (zu D).six (fun hHeld=>?_)
   clear hK K
   try simp only[Act.put,zA,zB,zC]
   refine tk 2 (.int .i64 (1+b1)) rfl (by kernel_rfl) (fun _ _ _ h=>h) (by rfl) hHeld (fun w hSw=>by go_simp) ?_
   try simp only[Act.put,zA,zB,zC]
   refine wpAnyH_ready (rs:=[10]) (by kernel_rfl) (by simp) ?_
   refine AllReadyH.cons rfl (fun K hK=>?_) AllReadyH.nil
   go_simp
   go_wp2_with fail
   refine(DrawN12.part w0 _ c a len cap x g p hl (zu HD) (zu D).mv.1 (zu D).r).mono ?_
   rintro e z18 ⟨⟨g1,rfl⟩,m1⟩
   replace D:=zh ((zu D).step m1)
   clear m1
   go_wp2_with fail
   refine hK.out _ _ (zu D).six (fun hHeld=>?_)
   clear hK K
   try simp only[Act.put,zA,zB,zC]
   try simp only[Act.put,zA,zB,zC]
   refine wpAnyH_ready (rs:=[16]) (by kernel_rfl) (by simp) ?_
   refine AllReadyH.cons rfl (fun K hK=>?_) AllReadyH.nil
   go_simp
   go_wp2_with fail
   refine(DrawN12.part w0 _ c a len cap x h m hl (zu HD) (zu D).mv.1 (zu D).r).mono ?_
   rintro e z19 ⟨⟨g2,rfl⟩,m1⟩
   replace D:=zh ((zu D).step m1)
   clear m1
   go_wp2_with fail
   refine hK.out _ _ (zu D).six (fun hHeld=>?_)
   clear hK K
   try simp only[Act.put,zA,zB,zC]
   try simp only[Act.put,zA,zB,zC]
   refine wpAnyH_ready (rs:=[17]) (by kernel_rfl) (by simp) ?_
   refine AllReadyH.cons rfl (fun K hK=>?_) AllReadyH.nil
   go_simp
   have D2:=zh ((zu D).alloc #[.int .i64 (1+b1),.int .i64 h,.int .i64 g,.int .i64 p,.int .i64 g1,.int .i64 m,.int .i64 g2] 3)
   obtain⟨f0,f1,d0,d1⟩:=(zu D2).bx.opn
   have lt:=(zu D2).bx.lt
   have Z:=zh ((zu D).out2 5 7 #[.int .i64 (1+b1),.int .i64 h,.int .i64 g,.int .i64 p,.int .i64 g1,.int .i64 m,.int .i64 g2])
   have Z0:=(zu Z).1
   have Z1:=(zu Z).2.1
   refine hK.out _ _ (zu D2).six (fun hHeld=>?_)
   clear hK K
   try simp only[Act.put,zA,zB,zC]
   refine tk 18 (.agg #[.int .i64 5,.slice (some ⟨z19.heap.size,0,none⟩) 7 7]) rfl (by kernel_rfl) (fun _ _ _ h=>h) (by rfl) hHeld (fun w hSw=>by go_simp) ?_
   try simp only[Act.put,zA,zB,zC]
   refine wpAnyH_ready (rs:=[19]) (by kernel_rfl) (by simp) ?_
   refine AllReadyH.cons rfl (fun K hK=>?_) AllReadyH.nil
   go_simp
   refine hK.out _ _ ((zu D).six_of (set2_below _ _ _ _ (Nat.le_of_lt (zu D).bx.lt.2) _ _)) (fun hHeld=>?_)
   clear hK K
   try simp only[Act.put,zA,zB,zC]
   try simp only[Act.put,zA,zB,zC]
   refine wpAnyH_done (by kernel_rfl) ?_ _
   go_wp2
   refine bodyPost_ret (v:= .agg #[.int .i64 5,.slice (some ⟨z19.heap.size,0,none⟩) 7 7]) (by simp[results,Tryz.results16,go_sem,Z0,Z1]) rfl ?_
   exact⟨5,_,7,7,_,rfl,(zu Z).2.2.2 _ (own7 (zu D).sz rfl),by decide,by decide,(zu Z).2.2.1⟩
 ·rcases hrr with rfl
  go_wp2_with fail
  replace D:=zh (zu D).drew
  refine wp_region_held_drew (S:=(fun w'=>w'.cell? ⟨w.heap.size,0,none⟩=some (.slice (some ⟨x.ga,0,none⟩) x.b.ac.length x.ca)∧w'.cell? ⟨w.heap.size,1,none⟩=some (.slice (some ⟨x.gi,0,none⟩) x.b.ic.length x.ci)∧w'.cell? ⟨w.heap.size,2,none⟩=some (.slice (some ⟨x.gb,0,none⟩) x.b.bs.length x.cb)∧w'.cell? ⟨w.heap.size,3,none⟩=some (.slice (some ⟨x.gl,0,none⟩) x.b.ls.length x.cl)∧w'.cell? ⟨w.heap.size,4,none⟩=some (.slice (some ⟨x.gt,0,none⟩) x.b.ts.length x.ct)∧w'.cell? ⟨w.heap.size,5,none⟩=some (.int .i64 x.b.lot))) (by kernel_rfl) (zu D).six (fun hHeld=>?_)
  refine tk 0 (.int .i64 h) rfl (by kernel_rfl) (fun _ _ _ h=>h) (by rfl) hHeld (fun w hSw=>by go_simp) ?_
  refine tk 1 (.pointer (some ⟨c,0,none⟩)) rfl (by kernel_rfl) (fun _ _ _ h=>h) (by rfl) hHeld (fun w hSw=>by go_simp) ?_
  refine tk 2 (.agg #[.slice (some ⟨x.ga,0,none⟩) x.b.ac.length x.ca,.slice (some ⟨x.gi,0,none⟩) x.b.ic.length x.ci,.slice (some ⟨x.gb,0,none⟩) x.b.bs.length x.cb,.slice (some ⟨x.gl,0,none⟩) x.b.ls.length x.cl,.slice (some ⟨x.gt,0,none⟩) x.b.ts.length x.ct,.int .i64 x.b.lot]) rfl (by kernel_rfl) (fun _ _ _ h=>h) (by rfl) hHeld (fun w hSw=>by go_simp) ?_
  refine tk 4 (.int .i64 m) rfl (by kernel_rfl) (fun _ _ _ h=>h) (by rfl) hHeld (fun w hSw=>by go_simp) ?_
  refine tk 5 (.pointer (some ⟨c,0,none⟩)) rfl (by kernel_rfl) (fun _ _ _ h=>h) (by rfl) hHeld (fun w hSw=>by go_simp) ?_
  refine tk 6 (.agg #[.slice (some ⟨x.ga,0,none⟩) x.b.ac.length x.ca,.slice (some ⟨x.gi,0,none⟩) x.b.ic.length x.ci,.slice (some ⟨x.gb,0,none⟩) x.b.bs.length x.cb,.slice (some ⟨x.gl,0,none⟩) x.b.ls.length x.cl,.slice (some ⟨x.gt,0,none⟩) x.b.ts.length x.ct,.int .i64 x.b.lot]) rfl (by kernel_rfl) (fun _ _ _ h=>h) (by rfl) hHeld (fun w hSw=>by go_simp) ?_
  refine tk 8 (.pointer (some ⟨c,0,none⟩)) rfl (by kernel_rfl) (fun _ _ _ h=>h) (by rfl) hHeld (fun w hSw=>by go_simp) ?_
  refine tk 9 (.agg #[.slice (some ⟨x.ga,0,none⟩) x.b.ac.length x.ca,.slice (some ⟨x.gi,0,none⟩) x.b.ic.length x.ci,.slice (some ⟨x.gb,0,none⟩) x.b.bs.length x.cb,.slice (some ⟨x.gl,0,none⟩) x.b.ls.length x.cl,.slice (some ⟨x.gt,0,none⟩) x.b.ts.length x.ct,.int .i64 x.b.lot]) rfl (by kernel_rfl) (fun _ _ _ h=>h) (by rfl) hHeld (fun w hSw=>by go_simp) ?_
  refine tk 10 (.int .i64 h) rfl (by kernel_rfl) (fun _ _ _ h=>h) (by rfl) hHeld (fun w hSw=>by go_simp) ?_
  refine tk 11 (.int .i64 m) rfl (by kernel_rfl) (fun _ _ _ h=>h) (by rfl) hHeld (fun w hSw=>by go_simp) ?_
  refine tk 13 (.pointer (some ⟨c,0,none⟩)) rfl (by kernel_rfl) (fun _ _ _ h=>h) (by rfl) hHeld (fun w hSw=>by go_simp) ?_
  refine tk 16 (.pointer (some ⟨c,0,none⟩)) rfl (by kernel_rfl) (fun _ _ _ h=>h) (by rfl) hHeld (fun w hSw=>by go_simp) ?_
  try simp only[Act.put,zA,zB,zC]
  refine wpAnyH_ready (rs:=[3]) (by kernel_rfl) (by simp) ?_
  refine AllReadyH.cons rfl (fun K hK=>?_) AllReadyH.nil
  go_simp
  go_wp2_with fail
  refine(any w0 _ c a len cap x 3 hl (zu HD) (zu D).mv.1 (zu D).r).mono ?_
  rintro e z20 ⟨⟨g1,rfl⟩,m1⟩
  replace D:=zh ((zu D).step m1)
  clear m1
  go_wp2_with fail
  refine hK.out _ _ (zu D).six (fun hHeld=>?_)
  clear hK K
  try simp only[Act.put,zA,zB,zC]
  try simp only[Act.put,zA,zB,zC]
  refine wpAnyH_ready (rs:=[7]) (by kernel_rfl) (by simp) ?_
  refine AllReadyH.cons rfl (fun K hK=>?_) AllReadyH.nil
  go_simp
  go_wp2_with fail
  refine(thing w0 _ c a len cap x 1 hl (zu HD) (zu D).mv.1 (zu D).r).mono ?_
  rintro e z21 ⟨⟨g2,rfl⟩,m1⟩
  replace D:=zh ((zu D).step m1)
  clear m1
  go_wp2_with fail
  refine hK.out _ _ (zu D).six (fun hHeld=>?_)
  clear hK K
  try simp only[Act.put,zA,zB,zC]
  try simp only[Act.put,zA,zB,zC]
  refine wpAnyH_ready (rs:=[12]) (by kernel_rfl) (by simp) ?_
  refine AllReadyH.cons rfl (fun K hK=>?_) AllReadyH.nil
  go_simp
  go_wp2_with fail
  refine(DrawN12.part w0 _ c a len cap x h m hl (zu HD) (zu D).mv.1 (zu D).r).mono ?_
  rintro e z22 ⟨⟨g3,rfl⟩,m1⟩
  replace D:=zh ((zu D).step m1)
  clear m1
  go_wp2_with fail
  refine hK.out _ _ (zu D).six (fun hHeld=>?_)
  clear hK K
  try simp only[Act.put,zA,zB,zC]
  try simp only[Act.put,zA,zB,zC]
  refine wpAnyH_ready (rs:=[14]) (by kernel_rfl) (by simp) ?_
  refine AllReadyH.cons rfl (fun K hK=>?_) AllReadyH.nil
  go_simp
  go_wp2_with fail
  refine(below w0 _ c a len cap 20 hl (zu HD) (zu D).mv.1 (by decide)).mono ?_
  rintro e z23 ⟨⟨b1,b1a,b1b,rfl⟩,m1⟩
  replace D:=zh ((zu D).step m1)
  clear m1
  have b1q:IntKind.i64.wrap (1+b1)=1+b1:=by rw[IntKind.wrap_i64];omega
  have b1w:wrap64 (1+b1)=1+b1:=by rw[wrap64];omega
  go_wp2_with fail
  refine hK.out _ _ (zu D).six (fun hHeld=>?_)
  clear hK K
  try simp only[Act.put,zA,zB,zC]
  refine tk 15 (.int .i64 (1+b1)) rfl (by kernel_rfl) (fun _ _ _ h=>h) (by rfl) hHeld (fun w hSw=>by go_simp) ?_
  try simp only[Act.put,zA,zB,zC]
  refine wpAnyH_ready (rs:=[17]) (by kernel_rfl) (by simp) ?_
  refine AllReadyH.cons rfl (fun K hK=>?_) AllReadyH.nil
  go_simp
  go_wp2_with fail
  refine(below w0 _ c a len cap 20 hl (zu HD) (zu D).mv.1 (by decide)).mono ?_
  rintro e z24 ⟨⟨b2,b2a,b2b,rfl⟩,m1⟩
  replace D:=zh ((zu D).step m1)
  clear m1
  have b2q:IntKind.i64.wrap (1+b2)=1+b2:=by rw[IntKind.wrap_i64];omega
  have b2w:wrap64 (1+b2)=1+b2:=by rw[wrap64];omega
  go_wp2_with fail
  refine hK.out _ _ (zu D).six (fun hHeld=>?_)
  clear hK K
  try simp only[Act.put,zA,zB,zC]
  refine tk 18 (.int .i64 (1+b2)) rfl (by kernel_rfl) (fun _ _ _ h=>h) (by rfl) hHeld (fun w hSw=>by go_simp) ?_
  try simp only[Act.put,zA,zB,zC]
  refine wpAnyH_ready (rs:=[19]) (by kernel_rfl) (by simp) ?_
  refine AllReadyH.cons rfl (fun K hK=>?_) AllReadyH.nil
  go_simp
  have D2:=zh ((zu D).alloc #[.int .i64 h,.int .i64 g1,.int .i64 m,.int .i64 g2,.int .i64 g3,.int .i64 (1+b1),.int .i64 (1+b2)] 3)
  obtain⟨f0,f1,d0,d1⟩:=(zu D2).bx.opn
  have lt:=(zu D2).bx.lt
  have Z:=zh ((zu D).out2 9 7 #[.int .i64 h,.int .i64 g1,.int .i64 m,.int .i64 g2,.int .i64 g3,.int .i64 (1+b1),.int .i64 (1+b2)])
  have Z0:=(zu Z).1
  have Z1:=(zu Z).2.1
  refine hK.out _ _ (zu D2).six (fun hHeld=>?_)
  clear hK K
  try simp only[Act.put,zA,zB,zC]
  refine tk 20 (.agg #[.int .i64 9,.slice (some ⟨z24.heap.size,0,none⟩) 7 7]) rfl (by kernel_rfl) (fun _ _ _ h=>h) (by rfl) hHeld (fun w hSw=>by go_simp) ?_
  try simp only[Act.put,zA,zB,zC]
  refine wpAnyH_ready (rs:=[21]) (by kernel_rfl) (by simp) ?_
  refine AllReadyH.cons rfl (fun K hK=>?_) AllReadyH.nil
  go_simp
  refine hK.out _ _ ((zu D).six_of (set2_below _ _ _ _ (Nat.le_of_lt (zu D).bx.lt.2) _ _)) (fun hHeld=>?_)
  clear hK K
  try simp only[Act.put,zA,zB,zC]
  try simp only[Act.put,zA,zB,zC]
  refine wpAnyH_done (by kernel_rfl) ?_ _
  go_wp2
  refine bodyPost_ret (v:= .agg #[.int .i64 9,.slice (some ⟨z24.heap.size,0,none⟩) 7 7]) (by simp[results,Tryz.results16,go_sem,Z0,Z1]) rfl ?_
  exact⟨9,_,7,7,_,rfl,(zu Z).2.2.2 _ (own7 (zu D).sz rfl),by decide,by decide,(zu Z).2.2.1⟩
 ·rcases hrr with rfl|rfl
  all_goals
   go_wp2_with fail
   replace D:=zh (zu D).drew
   refine wp_region_held_drew (S:=(fun w'=>w'.cell? ⟨w.heap.size,0,none⟩=some (.slice (some ⟨x.ga,0,none⟩) x.b.ac.length x.ca)∧w'.cell? ⟨w.heap.size,1,none⟩=some (.slice (some ⟨x.gi,0,none⟩) x.b.ic.length x.ci)∧w'.cell? ⟨w.heap.size,2,none⟩=some (.slice (some ⟨x.gb,0,none⟩) x.b.bs.length x.cb)∧w'.cell? ⟨w.heap.size,3,none⟩=some (.slice (some ⟨x.gl,0,none⟩) x.b.ls.length x.cl)∧w'.cell? ⟨w.heap.size,4,none⟩=some (.slice (some ⟨x.gt,0,none⟩) x.b.ts.length x.ct)∧w'.cell? ⟨w.heap.size,5,none⟩=some (.int .i64 x.b.lot))) (by kernel_rfl) (zu D).six (fun hHeld=>?_)
   refine tk 0 (.int .i64 p) rfl (by kernel_rfl) (fun _ _ _ h=>h) (by rfl) hHeld (fun w hSw=>by go_simp) ?_
   refine tk 1 (.pointer (some ⟨c,0,none⟩)) rfl (by kernel_rfl) (fun _ _ _ h=>h) (by rfl) hHeld (fun w hSw=>by go_simp) ?_
   refine tk 4 (.pointer (some ⟨c,0,none⟩)) rfl (by kernel_rfl) (fun _ _ _ h=>h) (by rfl) hHeld (fun w hSw=>by go_simp) ?_
   refine tk 7 (.pointer (some ⟨c,0,none⟩)) rfl (by kernel_rfl) (fun _ _ _ h=>h) (by rfl) hHeld (fun w hSw=>by go_simp) ?_
   refine tk 8 (.agg #[.slice (some ⟨x.ga,0,none⟩) x.b.ac.length x.ca,.slice (some ⟨x.gi,0,none⟩) x.b.ic.length x.ci,.slice (some ⟨x.gb,0,none⟩) x.b.bs.length x.cb,.slice (some ⟨x.gl,0,none⟩) x.b.ls.length x.cl,.slice (some ⟨x.gt,0,none⟩) x.b.ts.length x.ct,.int .i64 x.b.lot]) rfl (by kernel_rfl) (fun _ _ _ h=>h) (by rfl) hHeld (fun w hSw=>by go_simp) ?_
   try simp only[Act.put,zA,zB,zC]
   refine wpAnyH_ready (rs:=[2]) (by kernel_rfl) (by simp) ?_
   refine AllReadyH.cons rfl (fun K hK=>?_) AllReadyH.nil
   go_simp
   go_wp2_with fail
   refine(below w0 _ c a len cap 5 hl (zu HD) (zu D).mv.1 (by decide)).mono ?_
   rintro e z25 ⟨⟨b1,b1a,b1b,rfl⟩,m1⟩
   replace D:=zh ((zu D).step m1)
   clear m1
   have b1q:IntKind.i64.wrap (1+b1)=1+b1:=by rw[IntKind.wrap_i64];omega
   have b1w:wrap64 (1+b1)=1+b1:=by rw[wrap64];omega
   go_wp2_with fail
   refine hK.out _ _ (zu D).six (fun hHeld=>?_)
   clear hK K
   try simp only[Act.put,zA,zB,zC]
   refine tk 3 (.int .i64 (1+b1)) rfl (by kernel_rfl) (fun _ _ _ h=>h) (by rfl) hHeld (fun w hSw=>by go_simp) ?_
   try simp only[Act.put,zA,zB,zC]
   refine wpAnyH_ready (rs:=[5]) (by kernel_rfl) (by simp) ?_
   refine AllReadyH.cons rfl (fun K hK=>?_) AllReadyH.nil
   go_simp
   go_wp2_with fail
   refine(below w0 _ c a len cap 5 hl (zu HD) (zu D).mv.1 (by decide)).mono ?_
   rintro e z26 ⟨⟨b2,b2a,b2b,rfl⟩,m1⟩
   replace D:=zh ((zu D).step m1)
   clear m1
   have b2q:IntKind.i64.wrap (1+b2)=1+b2:=by rw[IntKind.wrap_i64];omega
   have b2w:wrap64 (1+b2)=1+b2:=by rw[wrap64];omega
   go_wp2_with fail
   refine hK.out _ _ (zu D).six (fun hHeld=>?_)
   clear hK K
   try simp only[Act.put,zA,zB,zC]
   refine tk 6 (.int .i64 (1+b2)) rfl (by kernel_rfl) (fun _ _ _ h=>h) (by rfl) hHeld (fun w hSw=>by go_simp) ?_
   try simp only[Act.put,zA,zB,zC]
   refine wpAnyH_ready (rs:=[9]) (by kernel_rfl) (by simp) ?_
   refine AllReadyH.cons rfl (fun K hK=>?_) AllReadyH.nil
   go_simp
   go_wp2_with fail
   refine(any w0 _ c a len cap x 2 hl (zu HD) (zu D).mv.1 (zu D).r).mono ?_
   rintro e z27 ⟨⟨g1,rfl⟩,m1⟩
   replace D:=zh ((zu D).step m1)
   clear m1
   go_wp2_with fail
   refine hK.out _ _ (zu D).six (fun hHeld=>?_)
   clear hK K
   try simp only[Act.put,zA,zB,zC]
   try simp only[Act.put,zA,zB,zC]
   refine wpAnyH_ready (rs:=[10]) (by kernel_rfl) (by simp) ?_
   refine AllReadyH.cons rfl (fun K hK=>?_) AllReadyH.nil
   go_simp
   have D2:=zh ((zu D).alloc #[.int .i64 p,.int .i64 (1+b1),.int .i64 (1+b2),.int .i64 g1] 3)
   obtain⟨f0,f1,d0,d1⟩:=(zu D2).bx.opn
   have lt:=(zu D2).bx.lt
   have Z:=zh ((zu D).out2 10 4 #[.int .i64 p,.int .i64 (1+b1),.int .i64 (1+b2),.int .i64 g1])
   have Z0:=(zu Z).1
   have Z1:=(zu Z).2.1
   refine hK.out _ _ (zu D2).six (fun hHeld=>?_)
   clear hK K
   try simp only[Act.put,zA,zB,zC]
   refine tk 11 (.agg #[.int .i64 10,.slice (some ⟨z27.heap.size,0,none⟩) 4 4]) rfl (by kernel_rfl) (fun _ _ _ h=>h) (by rfl) hHeld (fun w hSw=>by go_simp) ?_
   try simp only[Act.put,zA,zB,zC]
   refine wpAnyH_ready (rs:=[12]) (by kernel_rfl) (by simp) ?_
   refine AllReadyH.cons rfl (fun K hK=>?_) AllReadyH.nil
   go_simp
   refine hK.out _ _ ((zu D).six_of (set2_below _ _ _ _ (Nat.le_of_lt (zu D).bx.lt.2) _ _)) (fun hHeld=>?_)
   clear hK K
   try simp only[Act.put,zA,zB,zC]
   try simp only[Act.put,zA,zB,zC]
   refine wpAnyH_done (by kernel_rfl) ?_ _
   go_wp2
   refine bodyPost_ret (v:= .agg #[.int .i64 10,.slice (some ⟨z27.heap.size,0,none⟩) 4 4]) (by simp[results,Tryz.results16,go_sem,Z0,Z1]) rfl ?_
   exact⟨10,_,4,4,_,rfl,(zu Z).2.2.2 _ (own4 (zu D).sz rfl),by decide,by decide,(zu Z).2.2.1⟩
 ·rcases hrr with rfl|rfl|rfl
  all_goals
   go_wp2_with fail
   refine(below w0 _ c a len cap 40 hl (zu HD) (zu D).mv.1 (by decide)).mono ?_
   rintro e z28 ⟨⟨b1,b1a,b1b,rfl⟩,m1⟩
   replace D:=zh ((zu D).step m1)
   clear m1
   have b1q:IntKind.i64.wrap (1+b1)=1+b1:=by rw[IntKind.wrap_i64];omega
   have b1w:wrap64 (1+b1)=1+b1:=by rw[wrap64];omega
   have nt:=(zu D).r0.nt
   go_wp2
   go_loopw [10,11] (fun s i wr=>∃(v:Int) (k:Nat),s= .int .i64 v∧i= .int .i64 k∧k≤x.b.ts.length∧Hid (Dn w0 w wr c a len cap x)) (fun _ i _=>x.b.ts.length-(intOf i).toNat)
   case atStart=>exact⟨_,0,rfl,rfl,by omega,D⟩
   case round=>
    clear D
    obtain⟨v,k,rfl,rfl,hk,D⟩:=hrel
    obtain⟨c0,c1,c2,c3,c4,c5⟩:=(zu D).cl
    by_cases t:k<x.b.ts.length
    ·have kn:(k:Int)<x.b.ts.length:=by omega
     obtain⟨e0,e1,e2,e3,e4,e5,e6,e7⟩:=(zu D).r.rt k t
     generalize Tup8.el8 x.b.ts k=tr at *
     obtain⟨t0,t1,t2,t3,t4,t5,t6,t7⟩:=tr
     simp only at e0 e1 e2 e3 e4 e5 e6 e7
     by_cases e:t7=1
     ·have en:(t7==1)=true:=by simp[e]
      have EN:=zh e
      clear e
      go_wp2_with fail
      refine(once w0 _ c a len cap 2 hl (zu HD) (zu D).mv.1 (by decide)).mono ?_
      rintro e u5 ⟨⟨b,rfl⟩,m1⟩
      replace D:=zh ((zu D).step m1)
      clear m1 c0 c1 c2 c3 c4 c5 e0 e1 e2 e3 e4 e5 e6 e7
      obtain⟨c0,c1,c2,c3,c4,c5⟩:=(zu D).cl
      obtain⟨e0,e1,e2,e3,e4,e5,e6,e7⟩:=(zu D).r.rt k t
      generalize Tup8.el8 x.b.ts k=tr at *
      obtain⟨t0,t1,t2,t3,t4,t5,t6,t7⟩:=tr
      simp only at e0 e1 e2 e3 e4 e5 e6 e7
      cases b with
      |true=>
       go_wp2
       go_roundw
       case rel=>exact⟨_,k+1,rfl,by go_num,by omega,D⟩
       case measure=>simp[intOf];omega
      |false=>
       go_wp2
       go_roundw
       case rel=>exact⟨v,k+1,rfl,by go_num,by omega,D⟩
       case measure=>simp[intOf];omega
     ·have en:(t7==1)=false:=by simp[e]
      have EN:=zh e
      clear e
      go_wp2
      go_roundw
      case rel=>exact⟨v,k+1,rfl,by go_num,by omega,D⟩
      case measure=>simp[intOf];omega
    ·have tk1:¬(k:Int)<x.b.ts.length:=by omega
     obtain⟨f0,f1,d0,d1⟩:=(zu D).bx.opn
     have lt:=(zu D).bx.lt
     have Z:=zh ((zu D).out 7 2)
     have Z0:=fun cs=>((zu Z) cs).1
     have Z1:=fun cs=>((zu Z) cs).2.1
     go_wp2
     refine bodyPost_ret (v:= .agg #[.int .i64 7,.slice (some ⟨wr.heap.size,0,none⟩) 2 2]) (by simp[results,Tryz.results16,go_sem,Z0,Z1]) rfl ?_
     exact⟨7,_,2,2,_,rfl,own2 (by have:=(zu D).sz;simpa using this) (by simp),by decide,by decide,((zu Z) _).2.2⟩
end DrawX12
end Go.Proofs.YtcjgepkdpkhljaaGreat
