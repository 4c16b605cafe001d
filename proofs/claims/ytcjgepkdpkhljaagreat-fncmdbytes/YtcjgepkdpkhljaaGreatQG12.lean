/- Lemmas. -/
import Derived.Test.YtcjgepkdpkhljaaGreatQG10
import Derived.Test.YtcjgepkdpkhljaaGreatQG11
open Go.ChangeShapes Go.WideShapes Go.ChangeAt Go.RowKit
set_option linter.unusedVariables false
set_option linter.unusedSimpArgs false
set_option maxRecDepth 100000
set_option maxHeartbeats 32000000
namespace Go.Proofs.YtcjgepkdpkhljaaGreat
namespace IBalsFit
open BMem Bks ITrade ILists
open Lots (Says says_of NoOk)
open Bals (T3 el3 val sumI)
open Triples (At3 Holds3)
structure St(w W:World)(x:Bx):Prop where
 r:Rd W x
 c:Cl W w.heap.size x
 b:Below w.heap.size w W
 s:w.heap.size<W.heap.size
theorem St.step{w W W':World}{x:Bx}(h:St w W x)(k:Below W.heap.size W W'):St w W' x:=
 ⟨h.r.below k,h.c.below k h.s,h.b.trans (k.mono (Nat.le_of_lt h.s)),Nat.lt_of_lt_of_le h.s k.size⟩
theorem St.start{w:World}{x:Bx}(h:Rd w x)(e:TypeId):St w (w.alloc (.cells #[.slice (some ⟨x.ga,0,none⟩) x.b.ac.length x.ca,.slice (some ⟨x.gi,0,none⟩) x.b.ic.length x.ci,.slice (some ⟨x.gb,0,none⟩) x.b.bs.length x.cb,.slice (some ⟨x.gl,0,none⟩) x.b.ls.length x.cl,.slice (some ⟨x.gt,0,none⟩) x.b.ts.length x.ct,.int .i64 x.b.lot] e)) x:=
 ⟨h.alloc _,boxed w x e,(Below.refl w.heap.size w).alloc (Nat.le_refl _) _,by simp⟩
theorem one_more(w:World)(o:Obj):Below w.heap.size w (w.alloc o):=(Below.refl _ _).alloc (Nat.le_refl _) _
end IBalsFit
namespace BHelp
open BMem Bks ILists
open IBalsFit (St one_more)
structure Ix where
 aa:Option Addr
 ca:Nat
 ai:Option Addr
 ci:Nat
 ab:Option Addr
 cb:Nat
 al:Option Addr
 cl:Nat
 ats:Option Addr
 ct:Nat
 b:Bk
theorem row_block{w w':World}{base:Nat}{e:TypeId}{size:Nat}{g n cap:Nat}{xs:List Value}(h:w.ownsRow base e size (.slice (some ⟨g,0,none⟩) n cap) n xs)(hb:w'.heap[g]?=w.heap[g]?):w'.ownsRow base e size (.slice (some ⟨g,0,none⟩) n cap) n xs:=by
 refine⟨h.1,?_⟩
 rcases h.2 with⟨h1,_⟩|⟨g',c,cur,h1,h2,h3,h4⟩
 ·simp at h1
 ·obtain⟨e,_⟩:g=g'∧cap=c:=by simpa using h1
  subst e
  exact .inr ⟨g,c,cur,h1,h2,hb.trans h3,h4⟩
def Up(x:Bx)(N:Nat):Prop:=x.ga<N∧x.gi<N∧x.gb<N∧x.gl<N∧x.gt<N
def Lo(x:Bx)(N:Nat):Prop:=N≤x.ga∧N≤x.gi∧N≤x.gb∧N≤x.gl∧N≤x.gt
theorem ow_up{w:World}{base:Nat}{x:Bx}(h:Ow w base x):Up x w.heap.size:=⟨h.oa.lt.2,h.oi.lt.2,h.ob.lt.2,h.ol.lt.2,h.ot.lt.2⟩
theorem ow_lo{w:World}{base:Nat}{x:Bx}(h:Ow w base x):Lo x base:=⟨h.oa.lt.1,h.oi.lt.1,h.ob.lt.1,h.ol.lt.1,h.ot.lt.1⟩
section
variable {w W W':World} {y:Ix} {v0 v1 v2 v3 v4 v5:Value}
end
theorem row_store{w:World}{base:Nat}{e:TypeId}{size:Nat}{g n cap:Nat}{xs:List Value}(h:w.ownsRow base e size (.slice (some ⟨g,0,none⟩) n cap) n xs){a:Addr}(ha:a.block<base)(u:Value):(w.setCell a u).ownsRow base e size (.slice (some ⟨g,0,none⟩) n cap) n xs:=ownsRow_setCell_below h ha u
end BHelp
namespace SBals
open BMem Bks ITrade ILists IBalsFit
open Lots (Says says_of NoOk)
open Bals (T3 el3 val sumI)
theorem sKindA(w:World)(x:Bx)(no r:Int)(h:Rd w x)(hr:Chart.Right 20 4 x.b.ac)(hk:kindOf x.b.ac no=r):
  Calls Tryz.prog 72 #[.slice (some ⟨x.ga,0,none⟩) x.b.ac.length x.ca,.int .i64 no] w fun e w'=>e= .returned (.int .i64 r)∧Below w.heap.size w w':=
 (AccountSOk.sKind w x.ga _ x.ca x.b.ac no rfl h.na h.ra).mono fun e w' ⟨r',h1,h2,q,h3⟩=>⟨by rw[h2,kind_is hr h1,hk],by rw[h3];exact below_drewN (Below.refl _ _) q⟩
theorem sKindI(w:World)(x:Bx)(no r:Int)(h:Rd w x)(hr:Chart.Right 8 2 x.b.ic)(hk:kindOf x.b.ic no=r):
  Calls Tryz.prog 73 #[.slice (some ⟨x.gi,0,none⟩) x.b.ic.length x.ci,.int .i64 no] w fun e w'=>e= .returned (.int .i64 r)∧Below w.heap.size w w':=
 (InstrSOk.sKind w x.gi _ x.ci x.b.ic no rfl h.ni h.ri).mono fun e w' ⟨r',h1,h2,q,h3⟩=>⟨by rw[h2,kind_is hr h1,hk],by rw[h3];exact below_drewN (Below.refl _ _) q⟩
theorem sBals(w:World)(x:Bx)(b:Bool)(h:Rd w x)(hl:Lists x.b)(hb:Says b (BalsFit x.b)):
  Calls Tryz.prog 70 #[.agg #[.slice (some ⟨x.ga,0,none⟩) x.b.ac.length x.ca,.slice (some ⟨x.gi,0,none⟩) x.b.ic.length x.ci,.slice (some ⟨x.gb,0,none⟩) x.b.bs.length x.cb,.slice (some ⟨x.gl,0,none⟩) x.b.ls.length x.cl,.slice (some ⟨x.gt,0,none⟩) x.b.ts.length x.ct,.int .i64 x.b.lot]] w fun e w'=>e= .returned (.bool b)∧Below w.heap.size w w':=by
 have T:=zh hb
 have L:=zh hl
 have S0:=zh (St.start h 44)
 have nb:=h.nb
 clear hb hl h
 go_enter Tryz.func70,Tryz.ntmps70
 go_wp2
 go_loopw [3] (fun i wr=>∃(k:Nat),k≤x.b.bs.length∧i= .int .i64 k∧St w wr x∧Hid (∀j,j<k→BalFit x.b (el3 x.b.bs j)∧sumI x.b.bs (el3 x.b.bs j).2.1=0)) (fun i _=>x.b.bs.length-(intOf i).toNat)
 case atStart=>exact⟨0,by omega,rfl,zu S0,zh (fun i hi=>absurd hi (by omega))⟩
 case round=>
  obtain⟨k,hk,rfl,hS,HG⟩:=hrel
  clear S0
  by_cases t:k<x.b.bs.length
  ·obtain⟨d0,d1,d2⟩:=(hS.r.rb k t)
   obtain⟨c0,c1,c2,c3,c4,c5⟩:=hS.c
   have BAD:=zh (show ¬(BalFit x.b (el3 x.b.bs k)∧sumI x.b.bs (el3 x.b.bs k).2.1=0)→b=false from fun hr=>(zu T).not (fun r=>hr ⟨r.1 k t,r.2 _⟩))
   have GOOD:=zh (show(BalFit x.b (el3 x.b.bs k)∧sumI x.b.bs (el3 x.b.bs k).2.1=0)→∀i,i<k+1→BalFit x.b (el3 x.b.bs i)∧sumI x.b.bs (el3 x.b.bs i).2.1=0 from fun hr i hi=>by
    by_cases e:i=k
    ·subst e;exact hr
    ·exact(zu HG) i (by omega))
   have FIT:=zh (show BalFit x.b (el3 x.b.bs k)↔kindOf x.b.ac (el3 x.b.bs k).1≠0∧kindOf x.b.ic (el3 x.b.bs k).2.1≠0∧¬(kindOf x.b.ac (el3 x.b.bs k).1=1∧(el3 x.b.bs k).2.2<0) from Iff.rfl)
   have wz:=hS.s
   have S1:=zh (hS.step (one_more wr (.cells #[.int .i64 (el3 x.b.bs k).1,.int .i64 (el3 x.b.bs k).2.1,.int .i64 (el3 x.b.bs k).2.2] 184)))
   clear hS
   generalize BalFit x.b (el3 x.b.bs k)=FP at *
   generalize (el3 x.b.bs k).1=y0 at *
   generalize (el3 x.b.bs k).2.1=y1 at *
   generalize (el3 x.b.bs k).2.2=y2 at *
   generalize hK:kindOf x.b.ac y0=K at *
   generalize hJ:kindOf x.b.ic y1=J at *
   have HK:=zh hK
   have HJ:=zh hJ
   clear hK hJ
   go_wp2_with fail
   refine(sKindA _ x y0 K (zu S1).r (zu L).1 (zu HK)).mono ?_
   rintro e w1 ⟨rfl,bb⟩
   have S2:=zh ((zu S1).step bb)
   have f0:w1.cell? ⟨wr.heap.size,0,none⟩=some (.int .i64 y0):=(bb.cell (p:=⟨wr.heap.size,0,none⟩) (by simp)).trans (by simp)
   have f1:w1.cell? ⟨wr.heap.size,1,none⟩=some (.int .i64 y1):=(bb.cell (p:=⟨wr.heap.size,1,none⟩) (by simp)).trans (by simp)
   have f2:w1.cell? ⟨wr.heap.size,2,none⟩=some (.int .i64 y2):=(bb.cell (p:=⟨wr.heap.size,2,none⟩) (by simp)).trans (by simp)
   have z1:wr.heap.size<w1.heap.size:=by have:=bb.size;simp at this;omega
   clear bb c0 c1 c2 c3 c4 c5 d0 d1 d2
   obtain⟨c0,c1,c2,c3,c4,c5⟩:=(zu S2).c
   by_cases q0:K=0
   ·have F:=zh ((zu BAD) (fun hh=>((zu FIT).1 hh.1).1 q0))
    have hq:(K==0)=true:=by simp[q0]
    clear BAD GOOD FIT T q0
    go_wp2
    go_ret
    exact⟨by rw[zu F];rfl,(zu S2).b⟩
   have hq0:(K==0)=false:=by simp[q0]
   have Q0:=zh q0
   clear q0
   go_wp2_with fail
   refine(sKindI _ x y1 J (zu S2).r (zu L).2.1 (zu HJ)).mono ?_
   rintro e w2 ⟨rfl,bb⟩
   have S3:=zh ((zu S2).step bb)
   replace f0:w2.cell? ⟨wr.heap.size,0,none⟩=some (.int .i64 y0):=(bb.cell (p:=⟨wr.heap.size,0,none⟩) z1).trans f0
   replace f1:w2.cell? ⟨wr.heap.size,1,none⟩=some (.int .i64 y1):=(bb.cell (p:=⟨wr.heap.size,1,none⟩) z1).trans f1
   replace f2:w2.cell? ⟨wr.heap.size,2,none⟩=some (.int .i64 y2):=(bb.cell (p:=⟨wr.heap.size,2,none⟩) z1).trans f2
   have z2:wr.heap.size<w2.heap.size:=Nat.lt_of_lt_of_le z1 bb.size
   clear bb c0 c1 c2 c3 c4 c5
   obtain⟨c0,c1,c2,c3,c4,c5⟩:=(zu S3).c
   by_cases q1:J=0
   ·have F:=zh ((zu BAD) (fun hh=>((zu FIT).1 hh.1).2.1 q1))
    have hq:(J==0)=true:=by simp[q1]
    clear BAD GOOD FIT T q1
    go_wp2
    go_ret
    exact⟨by rw[zu F];rfl,(zu S3).b⟩
   have hq1:(J==0)=false:=by simp[q1]
   have Q1:=zh q1
   clear q1
   by_cases q2:K=1
   ·have hq2:(K==1)=true:=by simp[q2]
    by_cases q3:y2<0
    ·have F:=zh ((zu BAD) (fun hh=>((zu FIT).1 hh.1).2.2 ⟨q2,q3⟩))
     clear BAD GOOD FIT T q2
     go_wp2
     go_ret
     exact⟨by rw[zu F];rfl,(zu S3).b⟩
    have FP':=zh ((zu FIT).2 ⟨zu Q0,zu Q1,fun r=>q3 r.2⟩)
    have hq3:decide (y2<0)=false:=decide_eq_false q3
    clear q2 q3 FIT
    obtain⟨r,c,hs⟩:=Look.sum_is x.b.bs y1
    have Z:=zh (sum_zero (zu L).2.2.1 hs)
    have HS:=zh hs
    clear hs
    go_wp2_with fail
    refine(Look.sSum _ x.gb _ x.cb x.b.bs y1 r c rfl nb (zu S3).r.lb (zu S3).r.rb (zu HS)).mono ?_
    rintro e w3 ⟨rfl,bb⟩
    have S4:=zh ((zu S3).step bb)
    clear bb c0 c1 c2 c3 c4 c5 f0 f1 f2
    cases c
    ·have F:=zh ((zu BAD) (fun e=>by have:=(zu Z).2 e.2;cases this.1))
     clear BAD GOOD T
     go_wp2
     go_ret
     exact⟨by rw[zu F];rfl,(zu S4).b⟩
    by_cases q:r=0
    ·have G:=zh ((zu GOOD) ⟨zu FP',(zu Z).1 ⟨rfl,q⟩⟩)
     have hq:(r !=0)=false:=by simp[q]
     clear BAD GOOD q
     go_wp2
     go_roundw
     case rel=>exact⟨k+1,by omega,by go_num,zu S4,G⟩
     case measure=>simp[intOf];omega
    ·have F:=zh ((zu BAD) (fun e=>q ((zu Z).2 e.2).2))
     have hq:(r !=0)=true:=by simp[q]
     clear BAD GOOD T q
     go_wp2
     go_ret
     exact⟨by rw[zu F];rfl,(zu S4).b⟩
   ·have hq2:(K==1)=false:=by simp[q2]
    have FP':=zh ((zu FIT).2 ⟨zu Q0,zu Q1,fun r=>q2 r.1⟩)
    clear q2 FIT
    obtain⟨r,c,hs⟩:=Look.sum_is x.b.bs y1
    have Z:=zh (sum_zero (zu L).2.2.1 hs)
    have HS:=zh hs
    clear hs
    go_wp2_with fail
    refine(Look.sSum _ x.gb _ x.cb x.b.bs y1 r c rfl nb (zu S3).r.lb (zu S3).r.rb (zu HS)).mono ?_
    rintro e w3 ⟨rfl,bb⟩
    have S4:=zh ((zu S3).step bb)
    clear bb c0 c1 c2 c3 c4 c5 f0 f1 f2
    cases c
    ·have F:=zh ((zu BAD) (fun e=>by have:=(zu Z).2 e.2;cases this.1))
     clear BAD GOOD T
     go_wp2
     go_ret
     exact⟨by rw[zu F];rfl,(zu S4).b⟩
    by_cases q:r=0
    ·have G:=zh ((zu GOOD) ⟨zu FP',(zu Z).1 ⟨rfl,q⟩⟩)
     have hq:(r !=0)=false:=by simp[q]
     clear BAD GOOD q
     go_wp2
     go_roundw
     case rel=>exact⟨k+1,by omega,by go_num,zu S4,G⟩
     case measure=>simp[intOf];omega
    ·have F:=zh ((zu BAD) (fun e=>q ((zu Z).2 e.2).2))
     have hq:(r !=0)=true:=by simp[q]
     clear BAD GOOD T q
     go_wp2
     go_ret
     exact⟨by rw[zu F];rfl,(zu S4).b⟩
  ·have F:=zh ((zu T).of (bals_spec (fun j hj=>(zu HG) j (by omega))))
   obtain⟨c0,c1,c2,c3,c4,c5⟩:=hS.c
   have S1:=zh hS
   clear hS
   go_wp2
   go_ret
   exact⟨by rw[zu F];rfl,(zu S1).b⟩
end SBals
end Go.Proofs.YtcjgepkdpkhljaaGreat
