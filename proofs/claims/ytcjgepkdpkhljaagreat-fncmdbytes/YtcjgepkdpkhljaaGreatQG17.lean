/- Lemmas. -/
import Derived.Test.YtcjgepkdpkhljaaGreatQG13
import Derived.Test.YtcjgepkdpkhljaaGreatQG14
import Derived.Test.YtcjgepkdpkhljaaGreatQG15
import Derived.Test.YtcjgepkdpkhljaaGreatQG16
import Derived.WideKeyEntry
open Go.ChangeShapes Go.WideShapes Go.ChangeAt Go.RowKit
set_option linter.unusedVariables false
set_option linter.unusedSimpArgs false
set_option maxRecDepth 100000
set_option maxHeartbeats 32000000
namespace Go.Proofs.YtcjgepkdpkhljaaGreat
namespace ILotsFit
open BMem Bks ITrade ILists IBalsFit
open Lots (Says says_of NoOk qtyOf)
open Bals (T3 el3 val sumI upd ListOf)
open Tup5 (T5 el5)
theorem below_of_drew{w w':World}(h:Below w.drew.heap.size w.drew w'):Below w.heap.size w w':=⟨h.os,h.tape,h.output,h.size,h.block⟩
end ILotsFit
namespace SLots
open BMem Bks ITrade ILists IBalsFit SBals
open Lots (Says says_of NoOk ownL restL)
open Bals (T3 el3 val sumI)
open Tup5 (T5 el5)
open Takes (sumQ)
open ILotsFit (below_of_drew)
def Even(b:Bk)(j k:Nat):Prop:=(Chart.el b.ac j).2=1→(Chart.el b.ic k).2=2→sumQ (ownL b.ls (Chart.el b.ac j).1 (Chart.el b.ic k).1)=val b.bs (Chart.el b.ac j).1 (Chart.el b.ic k).1
theorem sLots(w:World)(x:Bx)(b:Bool)(h:Rd w x)(hl:Lists x.b)(hb:Says b (LotsFit x.b)):
  Calls Tryz.prog 71 #[.agg #[.slice (some ⟨x.ga,0,none⟩) x.b.ac.length x.ca,.slice (some ⟨x.gi,0,none⟩) x.b.ic.length x.ci,.slice (some ⟨x.gb,0,none⟩) x.b.bs.length x.cb,.slice (some ⟨x.gl,0,none⟩) x.b.ls.length x.cl,.slice (some ⟨x.gt,0,none⟩) x.b.ts.length x.ct,.int .i64 x.b.lot]] w fun e w'=>e= .returned (.bool b)∧Below w.heap.size w w':=by
 have T:=zh hb
 have L:=zh hl
 have S0:=zh (St.start h 44)
 have nl:=h.nl
 have na:=h.na
 have ni:=h.ni
 have nb:=h.nb
 have n120:x.b.ls.length≤120:=hl.2.2.2.1.1
 clear hb hl h
 go_enter Tryz.func71,Tryz.ntmps71
 go_wp2
 go_loopw [3] (fun i wr=>∃(k:Nat),k≤x.b.ls.length∧i= .int .i64 k∧St w wr x∧Hid (∀j,j<k→LotFit x.b (el5 x.b.ls j))) (fun i _=>x.b.ls.length-(intOf i).toNat)
 case atStart=>exact⟨0,by omega,rfl,zu S0,zh (fun i hi=>absurd hi (by omega))⟩
 case round=>
  obtain⟨k,hk,rfl,hS,HG⟩:=hrel
  clear S0
  by_cases t:k<x.b.ls.length
  ·obtain⟨d0,d1,d2,d3,d4⟩:=(hS.r.rl k t)
   obtain⟨c0,c1,c2,c3,c4,c5⟩:=hS.c
   have BAD:=zh (show ¬LotFit x.b (el5 x.b.ls k)→b=false from fun hr=>(zu T).not (fun r=>hr (r.1 k t)))
   have GOOD:=zh (show LotFit x.b (el5 x.b.ls k)→∀i,i<k+1→LotFit x.b (el5 x.b.ls i) from fun hr i hi=>by
    by_cases e:i=k
    ·subst e;exact hr
    ·exact(zu HG) i (by omega))
   have FIT:=zh (show LotFit x.b (el5 x.b.ls k)↔kindOf x.b.ac (el5 x.b.ls k).1=1∧kindOf x.b.ic (el5 x.b.ls k).2.1=2∧(el5 x.b.ls k).2.2.1≤x.b.lot from Iff.rfl)
   have wz:=hS.s
   have S1:=zh (hS.step (one_more wr (.cells #[.int .i64 (el5 x.b.ls k).1,.int .i64 (el5 x.b.ls k).2.1,.int .i64 (el5 x.b.ls k).2.2.1,.int .i64 (el5 x.b.ls k).2.2.2.1,.int .i64 (el5 x.b.ls k).2.2.2.2] 188)))
   clear hS
   generalize LotFit x.b (el5 x.b.ls k)=FP at *
   generalize (el5 x.b.ls k).1=y0 at *
   generalize (el5 x.b.ls k).2.1=y1 at *
   generalize (el5 x.b.ls k).2.2.1=y2 at *
   generalize (el5 x.b.ls k).2.2.2.1=y3 at *
   generalize (el5 x.b.ls k).2.2.2.2=y4 at *
   generalize hK:kindOf x.b.ac y0=K at *
   generalize hJ:kindOf x.b.ic y1=J at *
   have HK:=zh hK
   have HJ:=zh hJ
   clear hK hJ
   go_wp2_with fail
   refine(sKindA _ x y0 K (zu S1).r (zu L).1 (zu HK)).mono ?_
   rintro e w1 ⟨rfl,bb⟩
   have S2:=zh ((zu S1).step bb)
   have f1:w1.cell? ⟨wr.heap.size,1,none⟩=some (.int .i64 y1):=(bb.cell (p:=⟨wr.heap.size,1,none⟩) (by simp)).trans (by simp)
   have f2:w1.cell? ⟨wr.heap.size,2,none⟩=some (.int .i64 y2):=(bb.cell (p:=⟨wr.heap.size,2,none⟩) (by simp)).trans (by simp)
   have z1:wr.heap.size<w1.heap.size:=by have:=bb.size;simp at this;omega
   clear bb c0 c1 c2 c3 c4 c5 d0 d1 d2 d3 d4
   obtain⟨c0,c1,c2,c3,c4,c5⟩:=(zu S2).c
   by_cases q0:K=1
   ·have hq0:(K !=1)=false:=by simp[q0]
    have Q0:=zh q0
    clear q0
    go_wp2_with fail
    refine(sKindI _ x y1 J (zu S2).r (zu L).2.1 (zu HJ)).mono ?_
    rintro e w2 ⟨rfl,bb⟩
    have S3:=zh ((zu S2).step bb)
    replace f2:w2.cell? ⟨wr.heap.size,2,none⟩=some (.int .i64 y2):=(bb.cell (p:=⟨wr.heap.size,2,none⟩) z1).trans f2
    clear bb c0 c1 c2 c3 c4 c5
    obtain⟨c0,c1,c2,c3,c4,c5⟩:=(zu S3).c
    by_cases q1:J=2
    ·have hq1:(J !=2)=false:=by simp[q1]
     by_cases q2:y2>x.b.lot
     ·have F:=zh ((zu BAD) (fun hh=>by have:=((zu FIT).1 hh).2.2;omega))
      clear BAD GOOD FIT T q1
      go_wp2
      go_ret
      exact⟨by rw[zu F];rfl,(zu S3).b⟩
     ·have G:=zh ((zu GOOD) ((zu FIT).2 ⟨zu Q0,q1,by omega⟩))
      have hq2:decide (y2>x.b.lot)=false:=decide_eq_false q2
      clear BAD GOOD FIT q1 q2
      go_wp2
      go_roundw
      case rel=>exact⟨k+1,by omega,by go_num,zu S3,G⟩
      case measure=>simp[intOf];omega
    ·have F:=zh ((zu BAD) (fun hh=>q1 ((zu FIT).1 hh).2.1))
     have hq1:(J !=2)=true:=by simp[q1]
     clear BAD GOOD FIT T q1
     go_wp2
     go_ret
     exact⟨by rw[zu F];rfl,(zu S3).b⟩
   ·have F:=zh ((zu BAD) (fun hh=>q0 ((zu FIT).1 hh).1))
    have hq:(K !=1)=true:=by simp[q0]
    clear BAD GOOD FIT T q0
    go_wp2
    go_ret
    exact⟨by rw[zu F];rfl,(zu S2).b⟩
  ·have ALL:=zh (show ∀j,j<x.b.ls.length→LotFit x.b (el5 x.b.ls j) from fun j hj=>(zu HG) j (by omega))
   have IFF:=zh (lots_spec (zu L).1 (zu L).2.1 (zu ALL))
   obtain⟨c0,c1,c2,c3,c4,c5⟩:=hS.c
   have S1:=zh hS
   clear hS HG
   go_wp2
   go_loopw [5] (fun i wr=>∃(j:Nat),j≤x.b.ac.length∧i= .int .i64 j∧St w wr x∧Hid (∀j',j'<j→∀k,k<x.b.ic.length→Even x.b j' k)) (fun i _=>x.b.ac.length-(intOf i).toNat)
   case atStart=>exact⟨0,by omega,rfl,zu S1,zh (fun i hi=>absurd hi (by omega))⟩
   case round=>
    clear c0 c1 c2 c3 c4 c5 S1 hk t
    obtain⟨j,hj,rfl,hS,HG⟩:=hrel
    obtain⟨c0,c1,c2,c3,c4,c5⟩:=hS.c
    have S1:=zh hS
    clear hS
    by_cases t:j<x.b.ac.length
    ·go_wp2
     go_loopw [6] (fun i wr=>∃(k:Nat),k≤x.b.ic.length∧i= .int .i64 k∧St w wr x∧Hid (∀k',k'<k→Even x.b j k')) (fun i _=>x.b.ic.length-(intOf i).toNat)
     case atStart=>exact⟨0,by omega,rfl,zu S1,zh (fun i hi=>absurd hi (by omega))⟩
     case round=>
      clear c0 c1 c2 c3 c4 c5 S1
      obtain⟨k,hk,rfl,hS,HK⟩:=hrel
      obtain⟨c0,c1,c2,c3,c4,c5⟩:=hS.c
      by_cases u:k<x.b.ic.length
      ·obtain⟨a0,a1⟩:=hS.r.ra j t
       obtain⟨i0,i1⟩:=hS.r.ri k u
       have S2:=zh hS
       have wz:=hS.s
       clear hS
       have BAD:=zh (show ¬Even x.b j k→b=false from fun hr=>(zu T).not (fun r=>hr (((zu IFF).1 r) j t k u)))
       have GOOD:=zh (show Even x.b j k→∀i,i<k+1→Even x.b j i from fun hr i hi=>by
        by_cases e:i=k
        ·subst e;exact hr
        ·exact(zu HK) i (by omega))
       have DEF:=zh (show Even x.b j k↔((Chart.el x.b.ac j).2=1→(Chart.el x.b.ic k).2=2→sumQ (ownL x.b.ls (Chart.el x.b.ac j).1 (Chart.el x.b.ic k).1)=val x.b.bs (Chart.el x.b.ac j).1 (Chart.el x.b.ic k).1) from Iff.rfl)
       generalize Even x.b j k=EP at *
       generalize (Chart.el x.b.ac j).1=y0 at *
       generalize (Chart.el x.b.ac j).2=y1 at *
       generalize (Chart.el x.b.ic k).1=z0 at *
       generalize (Chart.el x.b.ic k).2=z1 at *
       by_cases q0:y1=1
       ·by_cases q1:z1=2
        ·have DEF2:=zh (show EP↔sumQ (ownL x.b.ls y0 z0)=val x.b.bs y0 z0 from(zu DEF).trans ⟨fun hh=>hh q0 q1,fun hh _ _=>hh⟩)
         have hq0:(y1==1)=true:=by simp[q0]
         have hq1:(z1==2)=true:=by simp[q1]
         have kj:(0:Int)≤(j:Int):=by omega
         have kj2:(j:Int)<(x.b.ac.length:Int):=by omega
         have kk:(0:Int)≤(k:Int):=by omega
         have kk2:(k:Int)<(x.b.ic.length:Int):=by omega
         clear DEF q0 q1
         go_wp2_with fail
         have ga:=(zu S2).r.la
         have gi:=(zu S2).r.li
         go_region_held3 (fun w'=>w'.cell? ⟨w.heap.size,0,none⟩=some (.slice (some ⟨x.ga,0,none⟩) x.b.ac.length x.ca)∧w'.cell? ⟨w.heap.size,1,none⟩=some (.slice (some ⟨x.gi,0,none⟩) x.b.ic.length x.ci)∧w'.cell? ⟨w.heap.size,2,none⟩=some (.slice (some ⟨x.gb,0,none⟩) x.b.bs.length x.cb)∧w'.cell? ⟨w.heap.size,3,none⟩=some (.slice (some ⟨x.gl,0,none⟩) x.b.ls.length x.cl)∧w'.cell? ⟨x.ga,j*2,none⟩=some (.int .i64 y0)∧w'.cell? ⟨x.gi,k*2,none⟩=some (.int .i64 z0)) (go_keep)
          (first|(go_at_call 96;refine(SSplit.sSplit wr.drew x.gl _ x.cl x.b.ls y0 z0 rfl (by omega) (zu S2).r.ll (zu S2).r.rl).mono ?_;rintro e w3 ⟨g1,k1,g2,k2,rfl,o1,o2,ne,bb⟩;have bW:Below wr.heap.size wr w3:=below_of_drew bb;have pc0:w3.cell? ⟨w.heap.size,0,none⟩=some (.slice (some ⟨x.ga,0,none⟩) x.b.ac.length x.ca):=(bW.cell (p:=⟨w.heap.size,0,none⟩) wz).trans c0;have pc1:w3.cell? ⟨w.heap.size,1,none⟩=some (.slice (some ⟨x.gi,0,none⟩) x.b.ic.length x.ci):=(bW.cell (p:=⟨w.heap.size,1,none⟩) wz).trans c1;have pc2:w3.cell? ⟨w.heap.size,2,none⟩=some (.slice (some ⟨x.gb,0,none⟩) x.b.bs.length x.cb):=(bW.cell (p:=⟨w.heap.size,2,none⟩) wz).trans c2;have pc3:w3.cell? ⟨w.heap.size,3,none⟩=some (.slice (some ⟨x.gl,0,none⟩) x.b.ls.length x.cl):=(bW.cell (p:=⟨w.heap.size,3,none⟩) wz).trans c3;have pa0:w3.cell? ⟨x.ga,j*2,none⟩=some (.int .i64 y0):=(bW.cell (p:=⟨x.ga,j*2,none⟩) ga).trans a0;have pi0:w3.cell? ⟨x.gi,k*2,none⟩=some (.int .i64 z0):=(bW.cell (p:=⟨x.gi,k*2,none⟩) gi).trans i0))
         have S3:=zh ((zu S2).step bW)
         have O1:=zh o1
         have l1:=o1.lt.2
         clear c0 c1 c2 c3 c4 c5 a0 a1 i0 i1 bb bW o1 o2 ne
         obtain⟨ps1,ps2,ps3⟩:=Takes.own_pos (zu L).2.2.2.1 y0 z0
         have P1:=zh ps1
         have n1:(ownL x.b.ls y0 z0).length≤1048576:=Nat.le_trans (List.length_filter_le _ _) nl
         have w3z:=(zu S3).s
         have ga3:=(zu S3).r.la
         have gi3:=(zu S3).r.li
         clear ps1 ps3
         generalize hQ:sumQ (ownL x.b.ls y0 z0)=QV at *
         generalize hV:val x.b.bs y0 z0=VV at *
         have HQ:=zh hQ
         have HV:=zh hV
         clear hQ hV
         go_wp2_with fail
         go_region_held3 (fun w'=>w'.cell? ⟨w.heap.size,0,none⟩=some (.slice (some ⟨x.ga,0,none⟩) x.b.ac.length x.ca)∧w'.cell? ⟨w.heap.size,1,none⟩=some (.slice (some ⟨x.gi,0,none⟩) x.b.ic.length x.ci)∧w'.cell? ⟨w.heap.size,2,none⟩=some (.slice (some ⟨x.gb,0,none⟩) x.b.bs.length x.cb)∧w'.cell? ⟨w.heap.size,3,none⟩=some (.slice (some ⟨x.gl,0,none⟩) x.b.ls.length x.cl)∧w'.cell? ⟨x.ga,j*2,none⟩=some (.int .i64 y0)∧w'.cell? ⟨x.gi,k*2,none⟩=some (.int .i64 z0)) (go_keep)
          (first|(go_at_call 97;refine(SSplit.sQty w3.drew g1 _ k1 (ownL x.b.ls y0 z0) rfl n1 (zu O1).at (zu P1) (by rw[zu HQ];exact ps2)).mono ?_;rintro e w4 ⟨he,bb⟩;rw[zu HQ] at he;subst he;have bW:Below w3.heap.size w3 w4:=below_of_drew bb;have qc0:w4.cell? ⟨w.heap.size,0,none⟩=some (.slice (some ⟨x.ga,0,none⟩) x.b.ac.length x.ca):=(bW.cell (p:=⟨w.heap.size,0,none⟩) w3z).trans pc0;have qc1:w4.cell? ⟨w.heap.size,1,none⟩=some (.slice (some ⟨x.gi,0,none⟩) x.b.ic.length x.ci):=(bW.cell (p:=⟨w.heap.size,1,none⟩) w3z).trans pc1;have qc2:w4.cell? ⟨w.heap.size,2,none⟩=some (.slice (some ⟨x.gb,0,none⟩) x.b.bs.length x.cb):=(bW.cell (p:=⟨w.heap.size,2,none⟩) w3z).trans pc2;have qc3:w4.cell? ⟨w.heap.size,3,none⟩=some (.slice (some ⟨x.gl,0,none⟩) x.b.ls.length x.cl):=(bW.cell (p:=⟨w.heap.size,3,none⟩) w3z).trans pc3;have qa0:w4.cell? ⟨x.ga,j*2,none⟩=some (.int .i64 y0):=(bW.cell (p:=⟨x.ga,j*2,none⟩) ga3).trans pa0;have qi0:w4.cell? ⟨x.gi,k*2,none⟩=some (.int .i64 z0):=(bW.cell (p:=⟨x.gi,k*2,none⟩) gi3).trans pi0)|(go_at_call 59;refine(Look.sOf w4 x.gb _ x.cb x.b.bs y0 z0 rfl nb ((zu S3).r.below bW).rb).mono ?_;rintro e w5 ⟨he,rfl⟩;rw[zu HV] at he;subst he))
         have S4:=zh ((zu S3).step bW)
         clear bb bW qc0 qc1 qc2 qc3 qa0 qi0 pc0 pc1 pc2 pc3 pa0 pi0
         by_cases q2:QV=VV
         ·have G:=zh ((zu GOOD) ((zu DEF2).2 q2))
          have hq2:(QV !=VV)=false:=by simp[q2]
          clear BAD GOOD DEF2 q2
          go_wp2
          go_roundw
          case rel=>exact⟨k+1,by omega,by go_num,zu S4,G⟩
          case measure=>simp[intOf];omega
         ·have F:=zh ((zu BAD) (fun hh=>q2 ((zu DEF2).1 hh)))
          have hq2:(QV !=VV)=true:=by simp[q2]
          clear BAD GOOD DEF2 T q2
          go_wp2
          go_ret
          exact⟨by rw[zu F];rfl,(zu S4).b⟩
        ·have G:=zh ((zu GOOD) ((zu DEF).2 (fun _ e=>absurd e q1)))
         have hq0:(y1==1)=true:=by simp[q0]
         have hq1:(z1==2)=false:=by simp[q1]
         clear BAD GOOD DEF q0 q1
         go_wp2
         go_roundw
         case rel=>exact⟨k+1,by omega,by go_num,zu S2,G⟩
         case measure=>simp[intOf];omega
       ·have G:=zh ((zu GOOD) ((zu DEF).2 (fun e _=>absurd e q0)))
        have hq0:(y1==1)=false:=by simp[q0]
        clear BAD GOOD DEF q0
        go_wp2
        go_roundw
        case rel=>exact⟨k+1,by omega,by go_num,zu S2,G⟩
        case measure=>simp[intOf];omega
      ·have G:=zh (show ∀j',j'<j+1→∀k,k<x.b.ic.length→Even x.b j' k from fun j' hj' k' hk'=>by
        by_cases e:j'=j
        ·subst e;exact(zu HK) k' (by omega)
        ·exact(zu HG) j' (by omega) k' hk')
       have S2:=zh hS
       clear hS
       go_wp2
       go_roundw
       case rel=>exact⟨j+1,by omega,by go_num,zu S2,G⟩
       case measure=>simp[intOf];omega
    ·have F:=zh ((zu T).of ((zu IFF).2 (fun j' hj' k hk=>(zu HG) j' (by omega) k hk)))
     go_wp2
     go_ret
     exact⟨by rw[zu F];rfl,(zu S1).b⟩
end SLots
namespace SBooksOk
open BMem Bks ITrade ILists IBalsFit SBals SLots
open Lots (Says says_of NoOk)
open Tup8 (T8 el8)
theorem sOksA(w:World)(x:Bx)(ok:Bool)(h:Rd w x)(hok:Chart.Says ok 20 4 x.b.ac):Calls Tryz.prog 65 #[.slice (some ⟨x.ga,0,none⟩) x.b.ac.length x.ca] w fun e w'=>e= .returned (.bool ok)∧Below w.heap.size w w':=
 (AccountSOk.sOk w x.ga _ x.ca x.b.ac ok rfl h.na h.ra hok).mono fun e w' ⟨h1,q,h2⟩=>⟨h1,by rw[h2];exact below_drewN (Below.refl _ _) q⟩
theorem sOksI(w:World)(x:Bx)(ok:Bool)(h:Rd w x)(hok:Chart.Says ok 8 2 x.b.ic):Calls Tryz.prog 66 #[.slice (some ⟨x.gi,0,none⟩) x.b.ic.length x.ci] w fun e w'=>e= .returned (.bool ok)∧Below w.heap.size w w':=
 (InstrSOk.sOk w x.gi _ x.ci x.b.ic ok rfl h.ni h.ri hok).mono fun e w' ⟨h1,q,h2⟩=>⟨h1,by rw[h2];exact below_drewN (Below.refl _ _) q⟩
theorem sBooksOk(w:World)(x:Bx)(b:Bool)(h:Rd w x)(hb:Says b (Ok x.b)):
  Calls Tryz.prog 45 #[.agg #[.slice (some ⟨x.ga,0,none⟩) x.b.ac.length x.ca,.slice (some ⟨x.gi,0,none⟩) x.b.ic.length x.ci,.slice (some ⟨x.gb,0,none⟩) x.b.bs.length x.cb,.slice (some ⟨x.gl,0,none⟩) x.b.ls.length x.cl,.slice (some ⟨x.gt,0,none⟩) x.b.ts.length x.ct,.int .i64 x.b.lot]] w fun e w'=>e= .returned (.bool b)∧Below w.heap.size w w':=by
 have T:=zh hb
 have S0:=zh (St.start h 44)
 have nb:=h.nb
 have nl:=h.nl
 have nt:=h.nt
 obtain⟨b0,h0⟩:=Chart.says_of 20 4 x.b.ac
 obtain⟨b1,h1⟩:=Chart.says_of 8 2 x.b.ic
 obtain⟨b2,h2⟩:=Bals.says_of (Bals.Right x.b.bs)
 obtain⟨b3,h3⟩:=says_of (Lots.Right x.b.ls)
 obtain⟨b4,h4⟩:=says_of (TRight x.b.ts)
 obtain⟨b5,h5⟩:=says_of (0≤x.b.lot∧x.b.lot≤1000000000)
 obtain⟨b6,h6⟩:=says_of (BalsFit x.b)
 obtain⟨b7,h7⟩:=says_of (LotsFit x.b)
 have H0:=zh h0
 have H1:=zh h1
 have H2:=zh h2
 have H3:=zh h3
 have H4:=zh h4
 have H5:=zh h5
 have H6:=zh h6
 have H7:=zh h7
 clear hb h h0 h1 h2 h3 h4 h5 h6 h7
 go_enter Tryz.func45,Tryz.ntmps45
 go_wp2_with fail
 refine(sOksA _ x b0 (zu S0).r (zu H0)).mono ?_
 rintro e w1 ⟨rfl,bb⟩
 have S1:=zh ((zu S0).step bb)
 clear bb
 obtain⟨c0,c1,c2,c3,c4,c5⟩:=(zu S1).c
 cases b0
 ·have F:=zh ((zu T).not (fun hh=>(zu H0).no hh.1.1))
  clear T
  go_wp2
  go_ret
  exact⟨by rw[zu F];rfl,(zu S1).b⟩
 go_wp2_with fail
 refine(sOksI _ x b1 (zu S1).r (zu H1)).mono ?_
 rintro e w2 ⟨rfl,bb⟩
 have S2:=zh ((zu S1).step bb)
 clear bb
 clear c0 c1 c2 c3 c4 c5
 obtain⟨c0,c1,c2,c3,c4,c5⟩:=(zu S2).c
 cases b1
 ·have F:=zh ((zu T).not (fun hh=>(zu H1).no hh.1.2.1))
  clear T
  go_wp2
  go_ret
  exact⟨by rw[zu F];rfl,(zu S2).b⟩
 go_wp2_with fail
 refine(SOk3.sOk _ x.gb _ x.cb x.b.bs b2 rfl nb (zu S2).r.lb (zu S2).r.rb (zu H2)).mono ?_
 rintro e w3 ⟨rfl,bb⟩
 have S3:=zh ((zu S2).step bb)
 clear bb
 clear c0 c1 c2 c3 c4 c5
 obtain⟨c0,c1,c2,c3,c4,c5⟩:=(zu S3).c
 cases b2
 ·have F:=zh ((zu T).not (fun hh=>(zu H2).no hh.1.2.2.1))
  clear T
  go_wp2
  go_ret
  exact⟨by rw[zu F];rfl,(zu S3).b⟩
 go_wp2_with fail
 refine(SOk5.sOk _ x.gl _ x.cl x.b.ls b3 rfl nl (zu S3).r.ll (zu S3).r.rl (zu H3)).mono ?_
 rintro e w4 ⟨rfl,bb⟩
 have S4:=zh ((zu S3).step bb)
 clear bb
 clear c0 c1 c2 c3 c4 c5
 obtain⟨c0,c1,c2,c3,c4,c5⟩:=(zu S4).c
 cases b3
 ·have F:=zh ((zu T).not (fun hh=>(zu H3).no hh.1.2.2.2.1))
  clear T
  go_wp2
  go_ret
  exact⟨by rw[zu F];rfl,(zu S4).b⟩
 go_wp2_with fail
 refine(ITrade.sOk _ x.gt _ x.ct x.b.ts b4 rfl nt (zu S4).r.lt (zu S4).r.rt (zu H4)).mono ?_
 rintro e w5 ⟨rfl,bb⟩
 have S5:=zh ((zu S4).step bb)
 clear bb
 clear c0 c1 c2 c3 c4 c5
 obtain⟨c0,c1,c2,c3,c4,c5⟩:=(zu S5).c
 cases b4
 ·have F:=zh ((zu T).not (fun hh=>(zu H4).no hh.1.2.2.2.2.1))
  clear T
  go_wp2
  go_ret
  exact⟨by rw[zu F];rfl,(zu S5).b⟩
 go_wp2_with fail
 refine(SOk5.sIn x.b.lot 0 1000000000 b5 _ (zu H5)).mono ?_
 rintro e w6 ⟨rfl,rfl⟩
 have S6:=S5
 cases b5
 ·have F:=zh ((zu T).not (fun hh=>(zu H5).no hh.1.2.2.2.2.2))
  clear T
  go_wp2
  go_ret
  exact⟨by rw[zu F];rfl,(zu S6).b⟩
 have L:=zh (show Lists x.b from⟨(zu H0).yes,(zu H1).yes,(zu H2).yes,(zu H3).yes,(zu H4).yes,(zu H5).yes⟩)
 go_wp2_with fail
 refine(sBals _ x b6 (zu S6).r (zu L) (zu H6)).mono ?_
 rintro e w7 ⟨rfl,bb⟩
 have S7:=zh ((zu S6).step bb)
 clear bb
 clear c0 c1 c2 c3 c4 c5
 obtain⟨c0,c1,c2,c3,c4,c5⟩:=(zu S7).c
 cases b6
 ·have F:=zh ((zu T).not (fun hh=>(zu H6).no hh.2.1))
  clear T
  go_wp2
  go_ret
  exact⟨by rw[zu F];rfl,(zu S7).b⟩
 go_wp2_with fail
 refine(sLots _ x b7 (zu S7).r (zu L) (zu H7)).mono ?_
 rintro e w8 ⟨rfl,bb⟩
 have S8:=zh ((zu S7).step bb)
 clear bb
 clear c0 c1 c2 c3 c4 c5
 obtain⟨c0,c1,c2,c3,c4,c5⟩:=(zu S8).c
 cases b7
 ·have F:=zh ((zu T).not (fun hh=>(zu H7).no hh.2.2.1))
  clear T
  go_wp2
  go_ret
  exact⟨by rw[zu F];rfl,(zu S8).b⟩
 go_wp2
 go_loopw [3] (fun i wr=>∃(k:Nat),k≤x.b.ts.length∧i= .int .i64 k∧St w wr x∧Hid (∀j,j<k→TradeFit x.b (el8 x.b.ts j))) (fun i _=>x.b.ts.length-(intOf i).toNat)
 case atStart=>exact⟨0,by omega,rfl,zu S8,zh (fun i hi=>absurd hi (by omega))⟩
 case round=>
  obtain⟨k,hk,rfl,hS,HG⟩:=hrel
  clear S0 S1 S2 S3 S4 S5 S6 S7 S8 c0 c1 c2 c3 c4 c5
  obtain⟨c0,c1,c2,c3,c4,c5⟩:=hS.c
  by_cases t:k<x.b.ts.length
  ·obtain⟨d0,d1,d2,d3,d4,d5,d6,d7⟩:=(hS.r.rt k t)
   have BAD:=zh (show ¬TradeFit x.b (el8 x.b.ts k)→b=false from fun hr=>(zu T).not (fun r=>hr (r.2.2.2 k t)))
   have GOOD:=zh (show TradeFit x.b (el8 x.b.ts k)→∀i,i<k+1→TradeFit x.b (el8 x.b.ts i) from fun hr i hi=>by
    by_cases e:i=k
    ·subst e;exact hr
    ·exact(zu HG) i (by omega))
   have FIT:=zh (show TradeFit x.b (el8 x.b.ts k)↔kindOf x.b.ac (el8 x.b.ts k).2.1=1∧kindOf x.b.ac (el8 x.b.ts k).2.2.1=1∧kindOf x.b.ic (el8 x.b.ts k).2.2.2.1=2∧kindOf x.b.ic (el8 x.b.ts k).2.2.2.2.2.1=1 from Iff.rfl)
   have wz:=hS.s
   have S1:=zh (hS.step (one_more wr (.cells #[.int .i64 (el8 x.b.ts k).1,.int .i64 (el8 x.b.ts k).2.1,.int .i64 (el8 x.b.ts k).2.2.1,.int .i64 (el8 x.b.ts k).2.2.2.1,.int .i64 (el8 x.b.ts k).2.2.2.2.1,.int .i64 (el8 x.b.ts k).2.2.2.2.2.1,.int .i64 (el8 x.b.ts k).2.2.2.2.2.2.1,.int .i64 (el8 x.b.ts k).2.2.2.2.2.2.2] 82)))
   clear hS
   generalize TradeFit x.b (el8 x.b.ts k)=FP at *
   generalize (el8 x.b.ts k).1=y0 at *
   generalize (el8 x.b.ts k).2.1=y1 at *
   generalize (el8 x.b.ts k).2.2.1=y2 at *
   generalize (el8 x.b.ts k).2.2.2.1=y3 at *
   generalize (el8 x.b.ts k).2.2.2.2.1=y4 at *
   generalize (el8 x.b.ts k).2.2.2.2.2.1=y5 at *
   generalize (el8 x.b.ts k).2.2.2.2.2.2.1=y6 at *
   generalize (el8 x.b.ts k).2.2.2.2.2.2.2=y7 at *
   generalize hK1:kindOf x.b.ac y1=K1 at *
   generalize hK2:kindOf x.b.ac y2=K2 at *
   generalize hK3:kindOf x.b.ic y3=K3 at *
   generalize hK4:kindOf x.b.ic y5=K4 at *
   have N1:=zh hK1
   have N2:=zh hK2
   have N3:=zh hK3
   have N4:=zh hK4
   clear hK1 hK2 hK3 hK4
   go_wp2_with fail
   refine(sKindA _ x y1 K1 (zu S1).r (zu L).1 (zu N1)).mono ?_
   rintro e v1 ⟨rfl,bb⟩
   have S2:=zh ((zu S1).step bb)
   have f2:v1.cell? ⟨wr.heap.size,2,none⟩=some (.int .i64 y2):=(bb.cell (p:=⟨wr.heap.size,2,none⟩) (by simp)).trans (by simp)
   have f3:v1.cell? ⟨wr.heap.size,3,none⟩=some (.int .i64 y3):=(bb.cell (p:=⟨wr.heap.size,3,none⟩) (by simp)).trans (by simp)
   have f5:v1.cell? ⟨wr.heap.size,5,none⟩=some (.int .i64 y5):=(bb.cell (p:=⟨wr.heap.size,5,none⟩) (by simp)).trans (by simp)
   have z1:wr.heap.size<v1.heap.size:=by have:=bb.size;simp at this;omega
   clear d0 d1 d2 d3 d4 d5 d6 d7
   clear bb c0 c1 c2 c3 c4 c5
   obtain⟨c0,c1,c2,c3,c4,c5⟩:=(zu S2).c
   by_cases q1:K1=1
   rotate_left
   ·have F:=zh ((zu BAD) (fun hh=>q1 ((zu FIT).1 hh).1))
    have hq:(K1 !=1)=true:=by simp[q1]
    clear BAD GOOD FIT T q1
    go_wp2
    go_ret
    exact⟨by rw[zu F];rfl,(zu S2).b⟩
   have hq1:(K1 !=1)=false:=by simp[q1]
   have Q1:=zh q1
   clear q1
   go_wp2_with fail
   refine(sKindA _ x y2 K2 (zu S2).r (zu L).1 (zu N2)).mono ?_
   rintro e v2 ⟨rfl,bb⟩
   have S3:=zh ((zu S2).step bb)
   replace f2:v2.cell? ⟨wr.heap.size,2,none⟩=some (.int .i64 y2):=(bb.cell (p:=⟨wr.heap.size,2,none⟩) z1).trans f2
   replace f3:v2.cell? ⟨wr.heap.size,3,none⟩=some (.int .i64 y3):=(bb.cell (p:=⟨wr.heap.size,3,none⟩) z1).trans f3
   replace f5:v2.cell? ⟨wr.heap.size,5,none⟩=some (.int .i64 y5):=(bb.cell (p:=⟨wr.heap.size,5,none⟩) z1).trans f5
   have z2:wr.heap.size<v2.heap.size:=Nat.lt_of_lt_of_le z1 bb.size
   clear bb c0 c1 c2 c3 c4 c5
   obtain⟨c0,c1,c2,c3,c4,c5⟩:=(zu S3).c
   by_cases q2:K2=1
   rotate_left
   ·have F:=zh ((zu BAD) (fun hh=>q2 ((zu FIT).1 hh).2.1))
    have hq:(K2 !=1)=true:=by simp[q2]
    clear BAD GOOD FIT T q2
    go_wp2
    go_ret
    exact⟨by rw[zu F];rfl,(zu S3).b⟩
   have hq2:(K2 !=1)=false:=by simp[q2]
   have Q2:=zh q2
   clear q2
   go_wp2_with fail
   refine(sKindI _ x y3 K3 (zu S3).r (zu L).2.1 (zu N3)).mono ?_
   rintro e v3 ⟨rfl,bb⟩
   have S4:=zh ((zu S3).step bb)
   replace f2:v3.cell? ⟨wr.heap.size,2,none⟩=some (.int .i64 y2):=(bb.cell (p:=⟨wr.heap.size,2,none⟩) z2).trans f2
   replace f3:v3.cell? ⟨wr.heap.size,3,none⟩=some (.int .i64 y3):=(bb.cell (p:=⟨wr.heap.size,3,none⟩) z2).trans f3
   replace f5:v3.cell? ⟨wr.heap.size,5,none⟩=some (.int .i64 y5):=(bb.cell (p:=⟨wr.heap.size,5,none⟩) z2).trans f5
   have z3:wr.heap.size<v3.heap.size:=Nat.lt_of_lt_of_le z2 bb.size
   clear bb c0 c1 c2 c3 c4 c5
   obtain⟨c0,c1,c2,c3,c4,c5⟩:=(zu S4).c
   by_cases q3:K3=2
   rotate_left
   ·have F:=zh ((zu BAD) (fun hh=>q3 ((zu FIT).1 hh).2.2.1))
    have hq:(K3 !=2)=true:=by simp[q3]
    clear BAD GOOD FIT T q3
    go_wp2
    go_ret
    exact⟨by rw[zu F];rfl,(zu S4).b⟩
   have hq3:(K3 !=2)=false:=by simp[q3]
   have Q3:=zh q3
   clear q3
   go_wp2_with fail
   refine(sKindI _ x y5 K4 (zu S4).r (zu L).2.1 (zu N4)).mono ?_
   rintro e v4 ⟨rfl,bb⟩
   have S5:=zh ((zu S4).step bb)
   clear bb c0 c1 c2 c3 c4 c5
   obtain⟨c0,c1,c2,c3,c4,c5⟩:=(zu S5).c
   by_cases q4:K4=1
   rotate_left
   ·have F:=zh ((zu BAD) (fun hh=>q4 ((zu FIT).1 hh).2.2.2))
    have hq:(K4 !=1)=true:=by simp[q4]
    clear BAD GOOD FIT T q4
    go_wp2
    go_ret
    exact⟨by rw[zu F];rfl,(zu S5).b⟩
   have hq4:(K4 !=1)=false:=by simp[q4]
   have Q4:=zh q4
   clear q4
   have G:=zh ((zu GOOD) ((zu FIT).2 ⟨zu Q1,zu Q2,zu Q3,zu Q4⟩))
   clear BAD GOOD FIT
   go_wp2
   go_roundw
   case rel=>exact⟨k+1,by omega,by go_num,zu S5,G⟩
   case measure=>simp[intOf];omega
  ·have F:=zh ((zu T).of ⟨zu L,(zu H6).yes,(zu H7).yes,fun j hj=>(zu HG) j (by omega)⟩)
   have S1:=zh hS
   clear hS
   go_wp2
   go_ret
   exact⟨by rw[zu F];rfl,(zu S1).b⟩
end SBooksOk
namespace Ans
open BMem Bks ILists BHelp
open IBalsFit (one_more)
def AnsB(told:Prop)(P:Bk→Int→Prop)(w:World)(e:Ending)(w':World):Prop:=
 (¬told∧e= .returned (.tuple #[.agg #[.slice none 0 0,.slice none 0 0,.slice none 0 0,.slice none 0 0,.slice none 0 0,.int .i64 0],.int .i64 1])∧Below w.heap.size w w')∨
 (told∧∃(z:Bx) (c:Int),P z.b c∧e= .returned (.tuple #[.agg #[.slice (some ⟨z.ga,0,none⟩) z.b.ac.length z.ca,.slice (some ⟨z.gi,0,none⟩) z.b.ic.length z.ci,.slice (some ⟨z.gb,0,none⟩) z.b.bs.length z.cb,.slice (some ⟨z.gl,0,none⟩) z.b.ls.length z.cl,.slice (some ⟨z.gt,0,none⟩) z.b.ts.length z.ct,.int .i64 z.b.lot],.int .i64 c])∧Ow w' w.heap.size z∧Below w.heap.size w w')
def Off(z:Bx)(g:Nat):Prop:=z.ga≠g∧z.gi≠g∧z.gb≠g∧z.gl≠g∧z.gt≠g
theorem off_up{z:Bx}{N g:Nat}(h:Up z N)(k:N≤g):Off z g:=by
 unfold Up at h
 unfold Off
 omega
theorem off_lo{z:Bx}{N g:Nat}(h:Lo z N)(k:g<N):Off z g:=by
 unfold Lo at h
 unfold Off
 omega
theorem row_set{w:World}{base:Nat}{e:TypeId}{size g n cap:Nat}{xs:List Value}(h:w.ownsRow base e size (.slice (some ⟨g,0,none⟩) n cap) n xs){g0:Nat}(ne:g≠g0)(j:Nat)(u:Value):(w.setCell ⟨g0,j,none⟩ u).ownsRow base e size (.slice (some ⟨g,0,none⟩) n cap) n xs:=
 row_block h (Below.heap_setCell w ⟨g0,j,none⟩ u g ne)
theorem ow_set{w:World}{base:Nat}{z:Bx}{g:Nat}(h:Ow w base z)(off:Off z g)(j:Nat)(u:Value):Ow (w.setCell ⟨g,j,none⟩ u) base z:=
 ⟨row_set h.oa off.1 j u,row_set h.oi off.2.1 j u,row_set h.ob off.2.2.1 j u,row_set h.ol off.2.2.2.1 j u,row_set h.ot off.2.2.2.2 j u⟩
theorem ow_alloc{w:World}{base:Nat}{z:Bx}(h:Ow w base z)(o:Obj):Ow (w.alloc o) base z:=
 ⟨h.oa.alloc o,h.oi.alloc o,h.ob.alloc o,h.ol.alloc o,h.ot.alloc o⟩
theorem six{B:Nat}{a w:World}{g:Nat}(h:Below B a w)(hg:B≤g)(u0 u1 u2 u3 u4 u5:Value):Below B a ((((((w.setCell ⟨g,0,none⟩ u0).setCell ⟨g,1,none⟩ u1).setCell ⟨g,2,none⟩ u2).setCell ⟨g,3,none⟩ u3).setCell ⟨g,4,none⟩ u4).setCell ⟨g,5,none⟩ u5):=
 (((((h.setCell (p:=⟨g,0,none⟩) hg u0).setCell (p:=⟨g,1,none⟩) hg u1).setCell (p:=⟨g,2,none⟩) hg u2).setCell (p:=⟨g,3,none⟩) hg u3).setCell (p:=⟨g,4,none⟩) hg u4).setCell (p:=⟨g,5,none⟩) hg u5
theorem ow_six{w:World}{base:Nat}{z:Bx}{g:Nat}(h:Ow w base z)(off:Off z g)(u0 u1 u2 u3 u4 u5:Value):Ow ((((((w.setCell ⟨g,0,none⟩ u0).setCell ⟨g,1,none⟩ u1).setCell ⟨g,2,none⟩ u2).setCell ⟨g,3,none⟩ u3).setCell ⟨g,4,none⟩ u4).setCell ⟨g,5,none⟩ u5) base z:=
 ow_set (ow_set (ow_set (ow_set (ow_set (ow_set h off 0 u0) off 1 u1) off 2 u2) off 3 u3) off 4 u4) off 5 u5
theorem box_six{w:World}{base g:Nat}{v0 v1 v2 v3 v4 v5:Value}(h:Box w base g v0 v1 v2 v3 v4 v5)(u0 u1 u2 u3 u4 u5:Value):Box ((((((w.setCell ⟨g,0,none⟩ u0).setCell ⟨g,1,none⟩ u1).setCell ⟨g,2,none⟩ u2).setCell ⟨g,3,none⟩ u3).setCell ⟨g,4,none⟩ u4).setCell ⟨g,5,none⟩ u5) base g u0 u1 u2 u3 u4 u5∧w.grownBy ((((((w.setCell ⟨g,0,none⟩ u0).setCell ⟨g,1,none⟩ u1).setCell ⟨g,2,none⟩ u2).setCell ⟨g,3,none⟩ u3).setCell ⟨g,4,none⟩ u4).setCell ⟨g,5,none⟩ u5) (some g):=by
 obtain⟨s0,y0⟩:=h.set0 u0
 obtain⟨s1,y1⟩:=s0.set1 u1
 obtain⟨s2,y2⟩:=s1.set2 u2
 obtain⟨s3,y3⟩:=s2.set3 u3
 obtain⟨s4,y4⟩:=s3.set4 u4
 obtain⟨s5,y5⟩:=s4.set5 u5
 exact⟨s5,Pairs.grown_trans (Pairs.grown_trans (Pairs.grown_trans (Pairs.grown_trans (Pairs.grown_trans y0 y1) y2) y3) y4) y5⟩
structure SR(w W:World)(x:Bx):Prop where
 r:Rd W x
 c:Cl W w.heap.size x
 v:Box W w.heap.size (w.heap.size+1) (.slice none 0 0) (.slice none 0 0) (.slice none 0 0) (.slice none 0 0) (.slice none 0 0) (.int .i64 0)
 b:Below w.heap.size w W
theorem SR.start{w:World}{x:Bx}(h:Rd w x):SR w ((w.alloc (.cells #[.slice (some ⟨x.ga,0,none⟩) x.b.ac.length x.ca,.slice (some ⟨x.gi,0,none⟩) x.b.ic.length x.ci,.slice (some ⟨x.gb,0,none⟩) x.b.bs.length x.cb,.slice (some ⟨x.gl,0,none⟩) x.b.ls.length x.cl,.slice (some ⟨x.gt,0,none⟩) x.b.ts.length x.ct,.int .i64 x.b.lot] 44)).alloc (.cells #[.slice none 0 0,.slice none 0 0,.slice none 0 0,.slice none 0 0,.slice none 0 0,.int .i64 0] 44)) x:=
 ⟨(h.alloc _).alloc _,(boxed w x 44).below (one_more _ _) (by simp),Box.made _ _ _ _ _ _ (by simp) (by simp),((Below.refl w.heap.size w).alloc (Nat.le_refl _) _).alloc (by simp) _⟩
theorem SR.step{w W W':World}{x:Bx}(h:SR w W x)(k:Below W.heap.size W W'):SR w W' x:=by
 have l:=h.v.lt
 exact⟨h.r.below k,h.c.below k (by omega),h.v.below k (by omega),h.b.trans (k.mono h.b.size)⟩
theorem ok_small{b:Bk}(h:Ok b):Small b:=by
 obtain⟨⟨h1,h2,h3,h4,h5,_⟩,_⟩:=h
 have a:=h1.1
 have b:=h2.1
 have c:=h3.1
 have d:=h4.1
 have e:=h5.1
 exact⟨by omega,by omega,by omega,by omega,by omega⟩
end Ans
namespace SAccountTell
open BMem Bks ILists BHelp Ans
open IBalsFit (one_more)
open Lots (Says says_of NoOk)
theorem sTell(w:World)(x:Bx)(no kind:Int)(h:Rd w x):
  Calls Tryz.prog 47 #[.agg #[.slice (some ⟨x.ga,0,none⟩) x.b.ac.length x.ca,.slice (some ⟨x.gi,0,none⟩) x.b.ic.length x.ci,.slice (some ⟨x.gb,0,none⟩) x.b.bs.length x.cb,.slice (some ⟨x.gl,0,none⟩) x.b.ls.length x.cl,.slice (some ⟨x.gt,0,none⟩) x.b.ts.length x.ct,.int .i64 x.b.lot],.int .i64 no,.int .i64 kind] w (AnsB (Ok x.b∧NoOk no∧(1≤kind∧kind≤4)) (IsAcc x.b no kind) w):=by
 obtain⟨b0,h0⟩:=says_of (Ok x.b)
 obtain⟨b1,h1⟩:=says_of (NoOk no)
 obtain⟨b2,h2⟩:=says_of (1≤kind∧kind≤4)
 have H0:=zh h0
 have H1:=zh h1
 have H2:=zh h2
 have S0:=zh (SR.start h)
 clear h0 h1 h2 h
 go_enter Tryz.func47,Tryz.ntmps47
 go_wp2_with fail
 refine(SBooksOk.sBooksOk _ x b0 (zu S0).r (zu H0)).mono ?_
 rintro e w1 ⟨rfl,bb⟩
 have S1:=zh ((zu S0).step bb)
 clear bb
 obtain⟨c0,c1,c2,c3,c4,c5⟩:=(zu S1).c
 obtain⟨r0,r1,r2,r3,r4,r5,f0,f1,f2,f3,f4,f5⟩:=Box.all ((zu S1).v)
 have B1:=zh (zu S1).b
 cases b0
 ·have N:=zh (show ¬(Ok x.b∧NoOk no∧(1≤kind∧kind≤4)) from fun hh=>(zu H0).no hh.1)
  go_wp2
  refine bodyPost_ret (v:= .tuple #[.agg #[.slice none 0 0,.slice none 0 0,.slice none 0 0,.slice none 0 0,.slice none 0 0,.int .i64 0],.int .i64 1]) (by simp[results,Tryz.results47,go_sem,r0,r1,r2,r3,r4,r5]) rfl (.inl ⟨zu N,rfl,?_⟩)
  exact six (zu B1) (by omega) _ _ _ _ _ _
 go_wp2_with fail
 refine(SOk5.sNo no b1 _ (zu H1)).mono ?_
 rintro e w1' ⟨rfl,rfl⟩
 cases b1
 ·have N:=zh (show ¬(Ok x.b∧NoOk no∧(1≤kind∧kind≤4)) from fun hh=>(zu H1).no hh.2.1)
  go_wp2
  refine bodyPost_ret (v:= .tuple #[.agg #[.slice none 0 0,.slice none 0 0,.slice none 0 0,.slice none 0 0,.slice none 0 0,.int .i64 0],.int .i64 1]) (by simp[results,Tryz.results47,go_sem,r0,r1,r2,r3,r4,r5]) rfl (.inl ⟨zu N,rfl,?_⟩)
  exact six (zu B1) (by omega) _ _ _ _ _ _
 go_wp2_with fail
 refine(SOk5.sIn kind 1 4 b2 _ (zu H2)).mono ?_
 rintro e w1'' ⟨rfl,rfl⟩
 cases b2
 ·have N:=zh (show ¬(Ok x.b∧NoOk no∧(1≤kind∧kind≤4)) from fun hh=>(zu H2).no hh.2.2)
  go_wp2
  refine bodyPost_ret (v:= .tuple #[.agg #[.slice none 0 0,.slice none 0 0,.slice none 0 0,.slice none 0 0,.slice none 0 0,.int .i64 0],.int .i64 1]) (by simp[results,Tryz.results47,go_sem,r0,r1,r2,r3,r4,r5]) rfl (.inl ⟨zu N,rfl,?_⟩)
  exact six (zu B1) (by omega) _ _ _ _ _ _
 have TOLD:=zh (show Ok x.b∧NoOk no∧(1≤kind∧kind≤4) from⟨(zu H0).yes,(zu H1).yes,(zu H2).yes⟩)
 have LI:=zh (zu H0).yes.1
 go_wp2_with fail
 refine(SCopy.sCopy _ x (zu S1).r).mono ?_
 rintro e w3 ⟨z,hz,rfl,oz,bb⟩
 have zb:w1''.heap.size≤w3.heap.size:=bb.size
 have S3:=zh (((zu S1).step bb).step (one_more w3 (.cells #[.slice (some ⟨z.ga,0,none⟩) z.b.ac.length z.ca,.slice (some ⟨z.gi,0,none⟩) z.b.ic.length z.ci,.slice (some ⟨z.gb,0,none⟩) z.b.bs.length z.cb,.slice (some ⟨z.gl,0,none⟩) z.b.ls.length z.cl,.slice (some ⟨z.gt,0,none⟩) z.b.ts.length z.ct,.int .i64 z.b.lot] 44)))
 have UZ:=zh (ow_up oz)
 have LZ:=zh (ow_lo oz)
 have OZ:=zh (ow_alloc oz (.cells #[.slice (some ⟨z.ga,0,none⟩) z.b.ac.length z.ca,.slice (some ⟨z.gi,0,none⟩) z.b.ic.length z.ci,.slice (some ⟨z.gb,0,none⟩) z.b.bs.length z.cb,.slice (some ⟨z.gl,0,none⟩) z.b.ls.length z.cl,.slice (some ⟨z.gt,0,none⟩) z.b.ts.length z.ct,.int .i64 z.b.lot] 44))
 have VZ:=zh (Box.made (w:=w3) (base:=w.heap.size) (.slice (some ⟨z.ga,0,none⟩) z.b.ac.length z.ca) (.slice (some ⟨z.gi,0,none⟩) z.b.ic.length z.ci) (.slice (some ⟨z.gb,0,none⟩) z.b.bs.length z.cb) (.slice (some ⟨z.gl,0,none⟩) z.b.ls.length z.cl) (.slice (some ⟨z.gt,0,none⟩) z.b.ts.length z.ct) (.int .i64 z.b.lot) (Nat.le_trans (zu B1).size zb) rfl)
 have rl:=(zu S1).v.lt
 have HZ:=zh hz
 clear bb oz hz c0 c1 c2 c3 c4 c5 r0 r1 r2 r3 r4 r5 f0 f1 f2 f3 f4 f5
 obtain⟨c0,c1,c2,c3,c4,c5⟩:=(zu S3).c
 obtain⟨K,hK⟩:∃K,Hid (kindOf x.b.ac no=K):=⟨_,rfl⟩
 go_wp2_with fail
 refine(SBals.sKindA _ x no K (zu S3).r (zu LI).1 (zu hK)).mono ?_
 rintro e w4 ⟨rfl,bb⟩
 have S4:=zh ((zu S3).step bb)
 have OZ4:=zh ((zu OZ).below bb (Nat.le_refl _))
 have z3:w3.heap.size<(w3.alloc (.cells #[.slice (some ⟨z.ga,0,none⟩) z.b.ac.length z.ca,.slice (some ⟨z.gi,0,none⟩) z.b.ic.length z.ci,.slice (some ⟨z.gb,0,none⟩) z.b.bs.length z.cb,.slice (some ⟨z.gl,0,none⟩) z.b.ls.length z.cl,.slice (some ⟨z.gt,0,none⟩) z.b.ts.length z.ct,.int .i64 z.b.lot] 44)).heap.size:=by simp
 have VZ4:=zh ((zu VZ).below bb z3)
 have z4:w3.heap.size<w4.heap.size:=Nat.lt_of_lt_of_le z3 bb.size
 clear bb c0 c1 c2 c3 c4 c5 z3
 obtain⟨c0,c1,c2,c3,c4,c5⟩:=(zu S4).c
 have d0:=(zu VZ4).c0
 have d1:=(zu VZ4).c1
 have d2:=(zu VZ4).c2
 have d3:=(zu VZ4).c3
 have d4:=(zu VZ4).c4
 have d5:=(zu VZ4).c5
 obtain⟨r0,r1,r2,r3,r4,r5,f0,f1,f2,f3,f4,f5⟩:=Box.all ((zu S4).v)
 have B4:=zh (zu S4).b
 have OFR:=off_lo (zu LZ) (g:=w.heap.size+1) (by omega)
 have KIN:=zh (kind_in (zu LI).1 no)
 by_cases q:K>0
 ·have IS:=zh (show IsAcc x.b no kind z.b 2 from .inl ⟨by have:=zu hK;omega,zu HZ,rfl⟩)
  go_wp2
  refine bodyPost_ret (v:= .tuple #[.agg #[.slice (some ⟨z.ga,0,none⟩) z.b.ac.length z.ca,.slice (some ⟨z.gi,0,none⟩) z.b.ic.length z.ci,.slice (some ⟨z.gb,0,none⟩) z.b.bs.length z.cb,.slice (some ⟨z.gl,0,none⟩) z.b.ls.length z.cl,.slice (some ⟨z.gt,0,none⟩) z.b.ts.length z.ct,.int .i64 z.b.lot],.int .i64 2]) (by simp[results,Tryz.results47,go_sem,r0,r1,r2,r3,r4,r5]) rfl (.inr ⟨zu TOLD,z,2,zu IS,rfl,?_,?_⟩)
  ·refine Ow.rebase (base:=w1''.heap.size) ?_ (zu B1).size
   exact ow_six (zu OZ4) OFR _ _ _ _ _ _
  ·exact six (zu B4) (by omega) _ _ _ _ _ _
 have hq:decide (K>0)=false:=decide_eq_false q
 have KZ:=zh (show kindOf x.b.ac no=0 from by have:=zu hK;have:=zu KIN;omega)
 clear q
 have na:=(zu S4).r.na
 go_wp2_with fail
 refine(AccountSPut.sPut _ x.ga _ x.ca x.b.ac no kind rfl na (zu S4).r.la (zu S4).r.ra).mono ?_
 rintro e w5 ⟨qs,ok,g5,k5,hp,rfl,o5,bb⟩
 have S5:=zh ((zu S4).step bb)
 have OZ5:=zh ((zu OZ4).below bb (Nat.le_refl _))
 have VZ5:=zh ((zu VZ4).below bb z4)
 have IP:=zh hp
 have O5:=zh o5
 have g5l:=o5.lt
 clear bb hp o5 c0 c1 c2 c3 c4 c5 d0 d1 d2 d3 d4 d5 r0 r1 r2 r3 r4 r5 f0 f1 f2 f3 f4 f5
 have d0:=(zu VZ5).c0
 have d1:=(zu VZ5).c1
 have d2:=(zu VZ5).c2
 have d3:=(zu VZ5).c3
 have d4:=(zu VZ5).c4
 have d5:=(zu VZ5).c5
 have e0:=(zu VZ5).free 0
 obtain⟨r0,r1,r2,r3,r4,r5,f0,f1,f2,f3,f4,f5⟩:=Box.all ((zu S5).v)
 have B5:=zh (zu S5).b
 cases ok
 ·have IS:=zh (show IsAcc x.b no kind z.b 7 from .inr ⟨zu KZ,qs,false,zu IP,.inl ⟨rfl,zu HZ,rfl⟩⟩)
  go_wp2
  refine bodyPost_ret (v:= .tuple #[.agg #[.slice (some ⟨z.ga,0,none⟩) z.b.ac.length z.ca,.slice (some ⟨z.gi,0,none⟩) z.b.ic.length z.ci,.slice (some ⟨z.gb,0,none⟩) z.b.bs.length z.cb,.slice (some ⟨z.gl,0,none⟩) z.b.ls.length z.cl,.slice (some ⟨z.gt,0,none⟩) z.b.ts.length z.ct,.int .i64 z.b.lot],.int .i64 7]) (by simp[results,Tryz.results47,go_sem,r0,r1,r2,r3,r4,r5]) rfl (.inr ⟨zu TOLD,z,7,zu IS,rfl,?_,?_⟩)
  ·refine Ow.rebase (base:=w1''.heap.size) ?_ (zu B1).size
   exact ow_six (zu OZ5) OFR _ _ _ _ _ _
  ·exact six (zu B5) (by omega) _ _ _ _ _ _
 ·obtain⟨y,hy⟩:∃y:Bx,y={z with ga:=g5,ca:=k5,b:={z.b with ac:=qs}}:=⟨_,rfl⟩
  have IS:=zh (show IsAcc x.b no kind {z.b with ac:=qs} 0 from .inr ⟨zu KZ,qs,true,zu IP,.inr ⟨rfl,by rw[zu HZ],rfl⟩⟩)
  have OY:=zh (show Ow w5 w1''.heap.size {z with ga:=g5,ca:=k5,b:={z.b with ac:=qs}} from{zu OZ5 with oa:=(zu O5).rebase (by omega)})
  have UPZ:=zu UZ
  have OFO:Off {z with ga:=g5,ca:=k5,b:={z.b with ac:=qs}} w3.heap.size:=by
   unfold Up at UPZ
   unfold Off
   simp
   omega
  have OFY:Off {z with ga:=g5,ca:=k5,b:={z.b with ac:=qs}} (w.heap.size+1):=by
   unfold Off at OFR⊢
   simp
   omega
  have zz:w.heap.size≤w3.heap.size:=Nat.le_trans (zu B1).size zb
  have rz:w.heap.size+1≠w3.heap.size:=by omega
  clear hy y UPZ
  go_wp2
  refine bodyPost_ret (v:= .tuple #[.agg #[.slice (some ⟨g5,0,none⟩) qs.length k5,.slice (some ⟨z.gi,0,none⟩) z.b.ic.length z.ci,.slice (some ⟨z.gb,0,none⟩) z.b.bs.length z.cb,.slice (some ⟨z.gl,0,none⟩) z.b.ls.length z.cl,.slice (some ⟨z.gt,0,none⟩) z.b.ts.length z.ct,.int .i64 z.b.lot],.int .i64 0]) (by simp[results,Tryz.results47,go_sem,r0,r1,r2,r3,r4,r5]) rfl (.inr ⟨zu TOLD,{z with ga:=g5,ca:=k5,b:={z.b with ac:=qs}},0,zu IS,rfl,?_,?_⟩)
  ·refine Ow.rebase (base:=w1''.heap.size) ?_ (zu B1).size
   exact ow_six (ow_set (zu OY) OFO 0 _) OFY _ _ _ _ _ _
  ·exact six ((zu B5).setCell (p:=⟨w3.heap.size,0,none⟩) zz _) (by omega) _ _ _ _ _ _
end SAccountTell
namespace SInstrTell
open BMem Bks ILists BHelp Ans
open IBalsFit (one_more)
open Lots (Says says_of NoOk)
theorem sTell(w:World)(x:Bx)(no kind:Int)(h:Rd w x):
  Calls Tryz.prog 48 #[.agg #[.slice (some ⟨x.ga,0,none⟩) x.b.ac.length x.ca,.slice (some ⟨x.gi,0,none⟩) x.b.ic.length x.ci,.slice (some ⟨x.gb,0,none⟩) x.b.bs.length x.cb,.slice (some ⟨x.gl,0,none⟩) x.b.ls.length x.cl,.slice (some ⟨x.gt,0,none⟩) x.b.ts.length x.ct,.int .i64 x.b.lot],.int .i64 no,.int .i64 kind] w (AnsB (Ok x.b∧NoOk no∧(1≤kind∧kind≤2)) (IsIns x.b no kind) w):=by
 obtain⟨b0,h0⟩:=says_of (Ok x.b)
 obtain⟨b1,h1⟩:=says_of (NoOk no)
 obtain⟨b2,h2⟩:=says_of (1≤kind∧kind≤2)
 have H0:=zh h0
 have H1:=zh h1
 have H2:=zh h2
 have S0:=zh (SR.start h)
 clear h0 h1 h2 h
 go_enter Tryz.func48,Tryz.ntmps48
 go_wp2_with fail
 refine(SBooksOk.sBooksOk _ x b0 (zu S0).r (zu H0)).mono ?_
 rintro e w1 ⟨rfl,bb⟩
 have S1:=zh ((zu S0).step bb)
 clear bb
 obtain⟨c0,c1,c2,c3,c4,c5⟩:=(zu S1).c
 obtain⟨r0,r1,r2,r3,r4,r5,f0,f1,f2,f3,f4,f5⟩:=Box.all ((zu S1).v)
 have B1:=zh (zu S1).b
 cases b0
 ·have N:=zh (show ¬(Ok x.b∧NoOk no∧(1≤kind∧kind≤2)) from fun hh=>(zu H0).no hh.1)
  go_wp2
  refine bodyPost_ret (v:= .tuple #[.agg #[.slice none 0 0,.slice none 0 0,.slice none 0 0,.slice none 0 0,.slice none 0 0,.int .i64 0],.int .i64 1]) (by simp[results,Tryz.results48,go_sem,r0,r1,r2,r3,r4,r5]) rfl (.inl ⟨zu N,rfl,?_⟩)
  exact six (zu B1) (by omega) _ _ _ _ _ _
 go_wp2_with fail
 refine(SOk5.sNo no b1 _ (zu H1)).mono ?_
 rintro e w1' ⟨rfl,rfl⟩
 cases b1
 ·have N:=zh (show ¬(Ok x.b∧NoOk no∧(1≤kind∧kind≤2)) from fun hh=>(zu H1).no hh.2.1)
  go_wp2
  refine bodyPost_ret (v:= .tuple #[.agg #[.slice none 0 0,.slice none 0 0,.slice none 0 0,.slice none 0 0,.slice none 0 0,.int .i64 0],.int .i64 1]) (by simp[results,Tryz.results48,go_sem,r0,r1,r2,r3,r4,r5]) rfl (.inl ⟨zu N,rfl,?_⟩)
  exact six (zu B1) (by omega) _ _ _ _ _ _
 go_wp2_with fail
 refine(SOk5.sIn kind 1 2 b2 _ (zu H2)).mono ?_
 rintro e w1'' ⟨rfl,rfl⟩
 cases b2
 ·have N:=zh (show ¬(Ok x.b∧NoOk no∧(1≤kind∧kind≤2)) from fun hh=>(zu H2).no hh.2.2)
  go_wp2
  refine bodyPost_ret (v:= .tuple #[.agg #[.slice none 0 0,.slice none 0 0,.slice none 0 0,.slice none 0 0,.slice none 0 0,.int .i64 0],.int .i64 1]) (by simp[results,Tryz.results48,go_sem,r0,r1,r2,r3,r4,r5]) rfl (.inl ⟨zu N,rfl,?_⟩)
  exact six (zu B1) (by omega) _ _ _ _ _ _
 have TOLD:=zh (show Ok x.b∧NoOk no∧(1≤kind∧kind≤2) from⟨(zu H0).yes,(zu H1).yes,(zu H2).yes⟩)
 have LI:=zh (zu H0).yes.1
 go_wp2_with fail
 refine(SCopy.sCopy _ x (zu S1).r).mono ?_
 rintro e w3 ⟨z,hz,rfl,oz,bb⟩
 have zb:w1''.heap.size≤w3.heap.size:=bb.size
 have S3:=zh (((zu S1).step bb).step (one_more w3 (.cells #[.slice (some ⟨z.ga,0,none⟩) z.b.ac.length z.ca,.slice (some ⟨z.gi,0,none⟩) z.b.ic.length z.ci,.slice (some ⟨z.gb,0,none⟩) z.b.bs.length z.cb,.slice (some ⟨z.gl,0,none⟩) z.b.ls.length z.cl,.slice (some ⟨z.gt,0,none⟩) z.b.ts.length z.ct,.int .i64 z.b.lot] 44)))
 have UZ:=zh (ow_up oz)
 have LZ:=zh (ow_lo oz)
 have OZ:=zh (ow_alloc oz (.cells #[.slice (some ⟨z.ga,0,none⟩) z.b.ac.length z.ca,.slice (some ⟨z.gi,0,none⟩) z.b.ic.length z.ci,.slice (some ⟨z.gb,0,none⟩) z.b.bs.length z.cb,.slice (some ⟨z.gl,0,none⟩) z.b.ls.length z.cl,.slice (some ⟨z.gt,0,none⟩) z.b.ts.length z.ct,.int .i64 z.b.lot] 44))
 have VZ:=zh (Box.made (w:=w3) (base:=w.heap.size) (.slice (some ⟨z.ga,0,none⟩) z.b.ac.length z.ca) (.slice (some ⟨z.gi,0,none⟩) z.b.ic.length z.ci) (.slice (some ⟨z.gb,0,none⟩) z.b.bs.length z.cb) (.slice (some ⟨z.gl,0,none⟩) z.b.ls.length z.cl) (.slice (some ⟨z.gt,0,none⟩) z.b.ts.length z.ct) (.int .i64 z.b.lot) (Nat.le_trans (zu B1).size zb) rfl)
 have rl:=(zu S1).v.lt
 have HZ:=zh hz
 clear bb oz hz c0 c1 c2 c3 c4 c5 r0 r1 r2 r3 r4 r5 f0 f1 f2 f3 f4 f5
 obtain⟨c0,c1,c2,c3,c4,c5⟩:=(zu S3).c
 obtain⟨K,hK⟩:∃K,Hid (kindOf x.b.ic no=K):=⟨_,rfl⟩
 go_wp2_with fail
 refine(SBals.sKindI _ x no K (zu S3).r (zu LI).2.1 (zu hK)).mono ?_
 rintro e w4 ⟨rfl,bb⟩
 have S4:=zh ((zu S3).step bb)
 have OZ4:=zh ((zu OZ).below bb (Nat.le_refl _))
 have z3:w3.heap.size<(w3.alloc (.cells #[.slice (some ⟨z.ga,0,none⟩) z.b.ac.length z.ca,.slice (some ⟨z.gi,0,none⟩) z.b.ic.length z.ci,.slice (some ⟨z.gb,0,none⟩) z.b.bs.length z.cb,.slice (some ⟨z.gl,0,none⟩) z.b.ls.length z.cl,.slice (some ⟨z.gt,0,none⟩) z.b.ts.length z.ct,.int .i64 z.b.lot] 44)).heap.size:=by simp
 have VZ4:=zh ((zu VZ).below bb z3)
 have z4:w3.heap.size<w4.heap.size:=Nat.lt_of_lt_of_le z3 bb.size
 clear bb c0 c1 c2 c3 c4 c5 z3
 obtain⟨c0,c1,c2,c3,c4,c5⟩:=(zu S4).c
 have d0:=(zu VZ4).c0
 have d1:=(zu VZ4).c1
 have d2:=(zu VZ4).c2
 have d3:=(zu VZ4).c3
 have d4:=(zu VZ4).c4
 have d5:=(zu VZ4).c5
 obtain⟨r0,r1,r2,r3,r4,r5,f0,f1,f2,f3,f4,f5⟩:=Box.all ((zu S4).v)
 have B4:=zh (zu S4).b
 have OFR:=off_lo (zu LZ) (g:=w.heap.size+1) (by omega)
 have KIN:=zh (kind_in (zu LI).2.1 no)
 by_cases q:K>0
 ·have IS:=zh (show IsIns x.b no kind z.b 2 from .inl ⟨by have:=zu hK;omega,zu HZ,rfl⟩)
  go_wp2
  refine bodyPost_ret (v:= .tuple #[.agg #[.slice (some ⟨z.ga,0,none⟩) z.b.ac.length z.ca,.slice (some ⟨z.gi,0,none⟩) z.b.ic.length z.ci,.slice (some ⟨z.gb,0,none⟩) z.b.bs.length z.cb,.slice (some ⟨z.gl,0,none⟩) z.b.ls.length z.cl,.slice (some ⟨z.gt,0,none⟩) z.b.ts.length z.ct,.int .i64 z.b.lot],.int .i64 2]) (by simp[results,Tryz.results48,go_sem,r0,r1,r2,r3,r4,r5]) rfl (.inr ⟨zu TOLD,z,2,zu IS,rfl,?_,?_⟩)
  ·refine Ow.rebase (base:=w1''.heap.size) ?_ (zu B1).size
   exact ow_six (zu OZ4) OFR _ _ _ _ _ _
  ·exact six (zu B4) (by omega) _ _ _ _ _ _
 have hq:decide (K>0)=false:=decide_eq_false q
 have KZ:=zh (show kindOf x.b.ic no=0 from by have:=zu hK;have:=zu KIN;omega)
 clear q
 have na:=(zu S4).r.ni
 go_wp2_with fail
 refine(InstrSPut.sPut _ x.gi _ x.ci x.b.ic no kind rfl na (zu S4).r.li (zu S4).r.ri).mono ?_
 rintro e w5 ⟨qs,ok,g5,k5,hp,rfl,o5,bb⟩
 have S5:=zh ((zu S4).step bb)
 have OZ5:=zh ((zu OZ4).below bb (Nat.le_refl _))
 have VZ5:=zh ((zu VZ4).below bb z4)
 have IP:=zh hp
 have O5:=zh o5
 have g5l:=o5.lt
 clear bb hp o5 c0 c1 c2 c3 c4 c5 d0 d1 d2 d3 d4 d5 r0 r1 r2 r3 r4 r5 f0 f1 f2 f3 f4 f5
 have d0:=(zu VZ5).c0
 have d1:=(zu VZ5).c1
 have d2:=(zu VZ5).c2
 have d3:=(zu VZ5).c3
 have d4:=(zu VZ5).c4
 have d5:=(zu VZ5).c5
 have e1:=(zu VZ5).free 1
 obtain⟨r0,r1,r2,r3,r4,r5,f0,f1,f2,f3,f4,f5⟩:=Box.all ((zu S5).v)
 have B5:=zh (zu S5).b
 cases ok
 ·have IS:=zh (show IsIns x.b no kind z.b 7 from .inr ⟨zu KZ,qs,false,zu IP,.inl ⟨rfl,zu HZ,rfl⟩⟩)
  go_wp2
  refine bodyPost_ret (v:= .tuple #[.agg #[.slice (some ⟨z.ga,0,none⟩) z.b.ac.length z.ca,.slice (some ⟨z.gi,0,none⟩) z.b.ic.length z.ci,.slice (some ⟨z.gb,0,none⟩) z.b.bs.length z.cb,.slice (some ⟨z.gl,0,none⟩) z.b.ls.length z.cl,.slice (some ⟨z.gt,0,none⟩) z.b.ts.length z.ct,.int .i64 z.b.lot],.int .i64 7]) (by simp[results,Tryz.results48,go_sem,r0,r1,r2,r3,r4,r5]) rfl (.inr ⟨zu TOLD,z,7,zu IS,rfl,?_,?_⟩)
  ·refine Ow.rebase (base:=w1''.heap.size) ?_ (zu B1).size
   exact ow_six (zu OZ5) OFR _ _ _ _ _ _
  ·exact six (zu B5) (by omega) _ _ _ _ _ _
 ·obtain⟨y,hy⟩:∃y:Bx,y={z with gi:=g5,ci:=k5,b:={z.b with ic:=qs}}:=⟨_,rfl⟩
  have IS:=zh (show IsIns x.b no kind {z.b with ic:=qs} 0 from .inr ⟨zu KZ,qs,true,zu IP,.inr ⟨rfl,by rw[zu HZ],rfl⟩⟩)
  have OY:=zh (show Ow w5 w1''.heap.size {z with gi:=g5,ci:=k5,b:={z.b with ic:=qs}} from{zu OZ5 with oi:=(zu O5).rebase (by omega)})
  have UPZ:=zu UZ
  have OFO:Off {z with gi:=g5,ci:=k5,b:={z.b with ic:=qs}} w3.heap.size:=by
   unfold Up at UPZ
   unfold Off
   simp
   omega
  have OFY:Off {z with gi:=g5,ci:=k5,b:={z.b with ic:=qs}} (w.heap.size+1):=by
   unfold Off at OFR⊢
   simp
   omega
  have zz:w.heap.size≤w3.heap.size:=Nat.le_trans (zu B1).size zb
  have rz:w.heap.size+1≠w3.heap.size:=by omega
  clear hy y UPZ
  go_wp2
  refine bodyPost_ret (v:= .tuple #[.agg #[.slice (some ⟨z.ga,0,none⟩) z.b.ac.length z.ca,.slice (some ⟨g5,0,none⟩) qs.length k5,.slice (some ⟨z.gb,0,none⟩) z.b.bs.length z.cb,.slice (some ⟨z.gl,0,none⟩) z.b.ls.length z.cl,.slice (some ⟨z.gt,0,none⟩) z.b.ts.length z.ct,.int .i64 z.b.lot],.int .i64 0]) (by simp[results,Tryz.results48,go_sem,r0,r1,r2,r3,r4,r5]) rfl (.inr ⟨zu TOLD,{z with gi:=g5,ci:=k5,b:={z.b with ic:=qs}},0,zu IS,rfl,?_,?_⟩)
  ·refine Ow.rebase (base:=w1''.heap.size) ?_ (zu B1).size
   exact ow_six (ow_set (zu OY) OFO 1 _) OFY _ _ _ _ _ _
  ·exact six ((zu B5).setCell (p:=⟨w3.heap.size,1,none⟩) zz _) (by omega) _ _ _ _ _ _
end SInstrTell
namespace STrd
open BMem Bks ILists IBalsFit Ans Trd
open Lots (Says says_of NoOk)
open Tup8 (T8 el8)
theorem sFind(w:World)(x:Bx)(no:Int)(h:Rd w x):
  Calls Tryz.prog 81 #[.agg #[.slice (some ⟨x.ga,0,none⟩) x.b.ac.length x.ca,.slice (some ⟨x.gi,0,none⟩) x.b.ic.length x.ci,.slice (some ⟨x.gb,0,none⟩) x.b.bs.length x.cb,.slice (some ⟨x.gl,0,none⟩) x.b.ls.length x.cl,.slice (some ⟨x.gt,0,none⟩) x.b.ts.length x.ct,.int .i64 x.b.lot],.int .i64 no] w fun e w'=>∃r,FoundAt x.b.ts no r∧e= .returned (.int .i64 r)∧Below w.heap.size w w':=by
 have S0:=zh (St.start h 44)
 have nt:=h.nt
 clear h
 go_enter Tryz.func81,Tryz.ntmps81
 go_wp2
 go_loopw [5] (fun i wr=>∃(k:Nat),k≤x.b.ts.length∧i= .int .i64 k∧St w wr x∧Hid (∀j,j<k→(el8 x.b.ts j).1≠no)) (fun i _=>x.b.ts.length-(intOf i).toNat)
 case atStart=>exact⟨0,by omega,rfl,zu S0,zh (fun i hi=>absurd hi (by omega))⟩
 case round=>
  obtain⟨k,hk,rfl,hS,HG⟩:=hrel
  clear S0
  obtain⟨c0,c1,c2,c3,c4,c5⟩:=hS.c
  by_cases t:k<x.b.ts.length
  ·obtain⟨d0,d1,d2,d3,d4,d5,d6,d7⟩:=(hS.r.rt k t)
   have S1:=zh hS
   obtain⟨y,hy⟩:∃y,Hid ((el8 x.b.ts k).1=y):=⟨_,rfl⟩
   rw[zu hy] at d0
   clear hS d1 d2 d3 d4 d5 d6 d7
   by_cases q:y=no
   ·have F:=zh (show FoundAt x.b.ts no k from .inl ⟨k,⟨t,(zu hy).trans q,zu HG⟩,rfl⟩)
    have hq:(y==no)=true:=by simp[q]
    clear q hy HG
    go_wp2
    go_ret
    exact⟨k,zu F,rfl,(zu S1).b⟩
   ·have G:=zh (show ∀j,j<k+1→(el8 x.b.ts j).1≠no from fun j hj=>by
     by_cases e:j=k
     ·subst e;rw[zu hy];exact q
     ·exact(zu HG) j (by omega))
    have hq:(y==no)=false:=by simp[q]
    clear q hy HG
    go_wp2
    go_roundw
    case rel=>exact⟨k+1,by omega,by go_num,zu S1,G⟩
    case measure=>simp[intOf];omega
  ·have F:=zh (show FoundAt x.b.ts no (-1) from .inr ⟨fun j hj=>(zu HG) j (by omega),rfl⟩)
   have S1:=zh hS
   clear hS HG
   go_wp2
   go_ret
   exact⟨-1,zu F,rfl,(zu S1).b⟩
theorem sOpenAt(w:World)(x:Bx)(no:Int)(h:Rd w x):
  Calls Tryz.prog 82 #[.agg #[.slice (some ⟨x.ga,0,none⟩) x.b.ac.length x.ca,.slice (some ⟨x.gi,0,none⟩) x.b.ic.length x.ci,.slice (some ⟨x.gb,0,none⟩) x.b.bs.length x.cb,.slice (some ⟨x.gl,0,none⟩) x.b.ls.length x.cl,.slice (some ⟨x.gt,0,none⟩) x.b.ts.length x.ct,.int .i64 x.b.lot],.int .i64 no] w fun e w'=>∃r c,OpenAt x.b.ts no r c∧e= .returned (.tuple #[.int .i64 r,.int .i64 c])∧Below w.heap.size w w':=by
 have S0:=zh (St.start h 44)
 have nt:=h.nt
 clear h
 go_enter Tryz.func82,Tryz.ntmps82
 go_wp2_with fail
 refine(sFind _ x no (zu S0).r).mono ?_
 rintro e w1 ⟨r,hf,rfl,bb⟩
 have S1:=zh ((zu S0).step bb)
 clear bb S0
 obtain⟨c0,c1,c2,c3,c4,c5⟩:=(zu S1).c
 rcases hf with⟨k,hk,rfl⟩|⟨hn,rfl⟩
 ·have t:=hk.1
  obtain⟨d0,d1,d2,d3,d4,d5,d6,d7⟩:=((zu S1).r.rt k t)
  have K:=zh hk
  obtain⟨y,hy⟩:∃y,Hid ((el8 x.b.ts k).2.2.2.2.2.2.2=y):=⟨_,rfl⟩
  rw[zu hy] at d7
  clear hk d0 d1 d2 d3 d4 d5 d6
  by_cases q:y=1
  ·have F:=zh (show OpenAt x.b.ts no k 0 from .inr ⟨k,zu K,rfl,.inr ⟨(zu hy).trans q,rfl⟩⟩)
   have hq:(y !=1)=false:=by simp[q]
   clear q hy
   go_wp2
   go_ret2
   exact⟨k,0,zu F,rfl,(zu S1).b⟩
  ·have F:=zh (show OpenAt x.b.ts no k 6 from .inr ⟨k,zu K,rfl,.inl ⟨by rw[zu hy];exact q,rfl⟩⟩)
   have hq:(y !=1)=true:=by simp[q]
   clear q hy
   go_wp2
   go_ret2
   exact⟨k,6,zu F,rfl,(zu S1).b⟩
 ·have F:=zh (show OpenAt x.b.ts no (-1) 3 from .inl ⟨hn,rfl,rfl⟩)
  clear hn
  go_wp2
  go_ret2
  exact⟨-1,3,zu F,rfl,(zu S1).b⟩
end STrd
namespace SHeld
open BMem Bks ILists IBalsFit
open Lots (Says says_of NoOk)
open Bals (T3 val Amt)
def heldL(bs:List T3)(i:Int):List (Int×Int)→List (Int×Int)
 |[]=>[]
 |p::r=>(if p.2=1∧0<val bs p.1 i then[(p.1,val bs p.1 i)] else[])++heldL bs i r
theorem heldL_append(bs:List T3)(i:Int):∀ps qs:List (Int×Int),heldL bs i (ps++qs)=heldL bs i ps++heldL bs i qs
 |[],qs=>rfl
 |p::r,qs=>by simp[heldL,heldL_append bs i r qs]
theorem heldL_len(bs:List T3)(i:Int):∀ps:List (Int×Int),(heldL bs i ps).length≤ps.length
 |[]=>Nat.le_refl _
 |p::r=>by
  have:=heldL_len bs i r
  unfold heldL
  split<;>simp<;>omega
theorem pair_take{ps:List (Int×Int)}{k:Nat}(h:k<ps.length):ps.take (k+1)=ps.take k++[ps.getD k (0,0)]:=by
 rw[List.take_succ_eq_append_getElem h]
 simp[List.getD,h]
theorem heldL_next{ps:List (Int×Int)}{k:Nat}(bs:List T3)(i:Int)(h:k<ps.length):heldL bs i (ps.take (k+1))=heldL bs i (ps.take k)++(if(ps.getD k (0,0)).2=1∧0<val bs (ps.getD k (0,0)).1 i then[((ps.getD k (0,0)).1,val bs (ps.getD k (0,0)).1 i)] else[]):=by
 rw[pair_take h,heldL_append]
 simp[heldL]
def sumH:List (Int×Int)→Int
 |[]=>0
 |p::r=>p.2+sumH r
theorem sumH_append:∀ps qs:List (Int×Int),sumH (ps++qs)=sumH ps+sumH qs
 |[],qs=>by simp[sumH]
 |p::r,qs=>by simp[sumH,sumH_append r qs];omega
theorem sumH_bd:∀ps:List (Int×Int),(∀p∈ps,0≤p.2∧p.2≤1000000000000000)→0≤sumH ps∧sumH ps≤1000000000000000*(ps.length:Int)
 |[],_=>by simp[sumH]
 |p::r,h=>by
  have a:=h p (by simp)
  have b:=sumH_bd r (fun q hq=>h q (by simp[hq]))
  simp only[sumH,List.length_cons]
  omega
theorem held_in{bs:List T3}(h:Bals.Right bs)(i:Int):∀ps:List (Int×Int),∀p∈heldL bs i ps,0≤p.2∧p.2≤1000000000000000
 |[],p,hp=>by simp[heldL] at hp
 |q::r,p,hp=>by
  unfold heldL at hp
  rcases List.mem_append.1 hp with hp|hp
  ·by_cases c:q.2=1∧0<val bs q.1 i
   ·rw[if_pos c] at hp
    have e:p=(q.1,val bs q.1 i):=by simpa using hp
    subst e
    have:=(h.val_in q.1 i).1
    unfold Amt at this
    exact⟨by have:=c.2;simp;omega,this.2⟩
   ·rw[if_neg c] at hp
    simp at hp
  ·exact held_in h i r p hp
def IsHeld(b:Bk)(i:Int)(who what:List Int)(all:Int)(ok:Bool):Prop:=
 ((Ok b∧Amt (sumH (heldL b.bs i b.ac)))∧who=(heldL b.bs i b.ac).map Prod.fst∧what=(heldL b.bs i b.ac).map Prod.snd∧all=sumH (heldL b.bs i b.ac)∧ok=true)∨
 (¬(Ok b∧Amt (sumH (heldL b.bs i b.ac)))∧who=[]∧what=[]∧all=0∧ok=false)
theorem sHeld(w:World)(x:Bx)(i:Int)(h:Rd w x):
  Calls Tryz.prog 88 #[.agg #[.slice (some ⟨x.ga,0,none⟩) x.b.ac.length x.ca,.slice (some ⟨x.gi,0,none⟩) x.b.ic.length x.ci,.slice (some ⟨x.gb,0,none⟩) x.b.bs.length x.cb,.slice (some ⟨x.gl,0,none⟩) x.b.ls.length x.cl,.slice (some ⟨x.gt,0,none⟩) x.b.ts.length x.ct,.int .i64 x.b.lot],.int .i64 i] w fun e w'=>∃(who what:List Int) (all:Int) (ok:Bool) (g1 c1 g2 c2:Nat),IsHeld x.b i who what all ok∧who.length=what.length∧who.length≤x.b.ac.length∧e= .returned (.tuple #[.slice (some ⟨g1,0,none⟩) who.length c1,.slice (some ⟨g2,0,none⟩) what.length c2,.int .i64 all,.bool ok])∧Ints.Own w' w.heap.size g1 who.length c1 who∧Ints.Own w' w.heap.size g2 what.length c2 what∧g1≠g2∧Below w.heap.size w w':=by
 obtain⟨b0,h0⟩:=says_of (Ok x.b)
 have H0:=zh h0
 have na:=h.na
 have nb:=h.nb
 have S0R:=zh h
 have S0:=zh (((St.start h 44).step (one_more (w.alloc (.cells #[.slice (some ⟨x.ga,0,none⟩) x.b.ac.length x.ca,.slice (some ⟨x.gi,0,none⟩) x.b.ic.length x.ci,.slice (some ⟨x.gb,0,none⟩) x.b.bs.length x.cb,.slice (some ⟨x.gl,0,none⟩) x.b.ls.length x.cl,.slice (some ⟨x.gt,0,none⟩) x.b.ts.length x.ct,.int .i64 x.b.lot] 44)) (.cells #[] 3))).step (one_more ((w.alloc (.cells #[.slice (some ⟨x.ga,0,none⟩) x.b.ac.length x.ca,.slice (some ⟨x.gi,0,none⟩) x.b.ic.length x.ci,.slice (some ⟨x.gb,0,none⟩) x.b.bs.length x.cb,.slice (some ⟨x.gl,0,none⟩) x.b.ls.length x.cl,.slice (some ⟨x.gt,0,none⟩) x.b.ts.length x.ct,.int .i64 x.b.lot] 44)).alloc (.cells #[] 3)) (.cells #[] 3)))
 have A0:=zh (Shorts.own_alloc (Shorts.lit0 (w.alloc (.cells #[.slice (some ⟨x.ga,0,none⟩) x.b.ac.length x.ca,.slice (some ⟨x.gi,0,none⟩) x.b.ic.length x.ci,.slice (some ⟨x.gb,0,none⟩) x.b.bs.length x.cb,.slice (some ⟨x.gl,0,none⟩) x.b.ls.length x.cl,.slice (some ⟨x.gt,0,none⟩) x.b.ts.length x.ct,.int .i64 x.b.lot] 44)) (w.heap.size+1) (g:=w.heap.size+1) (by simp) (by simp)) (.cells #[] 3))
 have C0:=zh (Shorts.lit0 ((w.alloc (.cells #[.slice (some ⟨x.ga,0,none⟩) x.b.ac.length x.ca,.slice (some ⟨x.gi,0,none⟩) x.b.ic.length x.ci,.slice (some ⟨x.gb,0,none⟩) x.b.bs.length x.cb,.slice (some ⟨x.gl,0,none⟩) x.b.ls.length x.cl,.slice (some ⟨x.gt,0,none⟩) x.b.ts.length x.ct,.int .i64 x.b.lot] 44)).alloc (.cells #[] 3)) (w.heap.size+1) (g:=w.heap.size+1+1) (by simp) (by simp))
 clear h0 h
 go_enter Tryz.func88,Tryz.ntmps88
 go_wp2_with fail
 generalize ((w.alloc (.cells #[.slice (some ⟨x.ga,0,none⟩) x.b.ac.length x.ca,.slice (some ⟨x.gi,0,none⟩) x.b.ic.length x.ci,.slice (some ⟨x.gb,0,none⟩) x.b.bs.length x.cb,.slice (some ⟨x.gl,0,none⟩) x.b.ls.length x.cl,.slice (some ⟨x.gt,0,none⟩) x.b.ts.length x.ct,.int .i64 x.b.lot] 44)).alloc (.cells #[] 3)).alloc (.cells #[] 3)=w0 at *
 refine(SBooksOk.sBooksOk _ x b0 (zu S0).r (zu H0)).mono ?_
 rintro e w1 ⟨rfl,bb⟩
 have S1:=zh ((zu S0).step bb)
 have A1:=zh ((zu A0).below bb (zu A0).lt.2)
 have C1:=zh ((zu C0).below bb (zu C0).lt.2)
 clear bb S0 A0 C0
 cases b0
 ·have N:=zh (show IsHeld x.b i [] [] 0 false from .inr ⟨fun hh=>(zu H0).no hh.1,rfl,rfl,rfl,rfl⟩)
  have B1:=zh (zu S1).b
  go_wp2
  refine bodyPost_ret (v:= .tuple #[.slice (some ⟨w.heap.size+1,0,none⟩) 0 0,.slice (some ⟨w.heap.size+1+1,0,none⟩) 0 0,.int .i64 0,.bool false]) (by simp[results,Tryz.results88,go_sem]) rfl ⟨[],[],0,false,_,_,_,_,zu N,rfl,by simp,rfl,(zu A1).mono (by omega),(zu C1).mono (by omega),by omega,zu B1⟩
 have YES:=zh (zu H0).yes
 have al:x.b.ac.length≤20:=(zu H0).yes.1.1.1
 have BR:=zh (zu H0).yes.1.2.2.1
 clear H0
 go_wp2
 go_loopw [8,9,10,11] (fun l m s j wr=>∃(ps:List (Int×Int)) (g1 k1 g2 k2 k:Nat),l= .slice (some ⟨g1,0,none⟩) ps.length k1∧m= .slice (some ⟨g2,0,none⟩) ps.length k2∧s= .int .i64 (sumH ps)∧j= .int .i64 k∧k≤x.b.ac.length∧ps.length≤k∧g1≠g2∧Hid (ps=heldL x.b.bs i (x.b.ac.take k))∧Hid (Ints.Own wr (w.heap.size+1) g1 ps.length k1 (ps.map Prod.fst))∧Hid (Ints.Own wr (w.heap.size+1) g2 ps.length k2 (ps.map Prod.snd))∧Hid (St w wr x)) (fun _ _ _ j _=>x.b.ac.length-(intOf j).toNat)
 case atStart=>exact⟨[],w.heap.size+1,0,w.heap.size+1+1,0,0,rfl,rfl,rfl,rfl,by omega,by simp,by omega,zh rfl,A1,C1,S1⟩
 case round=>
  clear A1 C1 S1
  obtain⟨ps,g1,k1,g2,k2,k,rfl,rfl,rfl,rfl,hk,pl,gne,HP,OA,OC,S2⟩:=hrel
  obtain⟨c0,c1,c2,c3,c4,c5⟩:=(zu S2).c
  by_cases t:k<x.b.ac.length
  ·obtain⟨d0,d1⟩:=((zu S2).r.ra k t)
   have NP:=zh (heldL_next (ps:=x.b.ac) (k:=k) x.b.bs i t)
   rw[←zu HP] at NP
   have SB:=zh (sumH_bd ps (by rw[zu HP];exact held_in (zu BR) i _))
   have RB:=zh (zu S2).r.rb
   obtain⟨q0,hq0⟩:∃q0,Hid ((x.b.ac.getD k (0,0)).1=q0):=⟨_,rfl⟩
   obtain⟨q1,hq1⟩:∃q1,Hid ((x.b.ac.getD k (0,0)).2=q1):=⟨_,rfl⟩
   rw[zu hq0] at d0
   rw[zu hq1] at d1
   rw[zu hq0,zu hq1] at NP
   obtain⟨vv,hvv⟩:∃vv,Hid (val x.b.bs q0 i=vv):=⟨_,rfl⟩
   rw[zu hvv] at NP
   have VB:=zh (show vv≤1000000000000000∧-1000000000000000≤vv from by
    have:=((zu BR).val_in q0 i).1
    unfold Amt at this
    rw[zu hvv] at this
    omega)
   clear hq0 hq1
   go_wp2_with fail
   have K4:=And.intro c2 (And.intro c0 d0)
   go_region_held3 (fun w'=>w'.cell? ⟨w.heap.size,2,none⟩=some (.slice (some ⟨x.gb,0,none⟩) x.b.bs.length x.cb)∧w'.cell? ⟨w.heap.size,0,none⟩=some (.slice (some ⟨x.ga,0,none⟩) x.b.ac.length x.ca)∧w'.cell? ⟨x.ga,k*2,none⟩=some (.int .i64 q0)) (first|exact K4)
    (first|(go_at_call 59;refine(Look.sOf wr.drew x.gb _ x.cb x.b.bs q0 i rfl nb (zu RB)).mono ?_;rintro e w3 ⟨he,hw⟩;rw[zu hvv] at he;subst he;subst hw))
   have S3:=zh ((zu S2).step (Below.refl _ _).drew)
   have OA3:=zh (show Ints.Own wr.drew (w.heap.size+1) g1 ps.length k1 (ps.map Prod.fst) from zu OA)
   have OC3:=zh (show Ints.Own wr.drew (w.heap.size+1) g2 ps.length k2 (ps.map Prod.snd) from zu OC)
   have e0:wr.drew.cell? ⟨x.ga,k*2,none⟩=some (.int .i64 q0):=d0
   have e1:wr.drew.cell? ⟨x.ga,k*2+1,none⟩=some (.int .i64 q1):=d1
   generalize wr.drew=w3 at *
   clear K4 c0 c1 c2 c3 c4 c5 d0 d1 RB OA OC S2 hvv
   obtain⟨c0,c1,c2,c3,c4,c5⟩:=(zu S3).c
   have sz:=(zu S3).s
   have bs:=(zu S3).b.size
   have pl20:ps.length≤20:=by omega
   by_cases own:q1=1∧0<vv
   ·have NP1:Hid (heldL x.b.bs i (x.b.ac.take (k+1))=ps++[(q0,vv)]):=zh (by rw[zu NP,if_pos own])
    have ob:(q1==1)=true:=by simpa using own.1
    have ov:=own.2
    have WS:IntKind.i64.wrap (sumH ps+vv)=sumH ps+vv:=by
     have a:=zu SB
     have b:=zu VB
     rw[IntKind.wrap_i64]
     ·omega
     all_goals omega
    clear NP own
    go_wp2_with (first|(at_builtin;refine Shorts.wp_appI _ rfl _ _ rfl (w.heap.size+1) g1 ps.length k1 (ps.map Prod.fst) w3.heap.size q0 rfl rfl (Shorts.own_alloc (zu OA3) _) (by simp) (by omega) (by simp;omega) ?_)|go_in)
    intro g5 c5' w5 o5 gr5 loc5
    have l1:=(zu OA3).lt
    have l2:=(zu OC3).lt
    have S5:=zh (show St w w5 x from by
     have S4:=(zu S3).step (one_more w3 (.cells #[.int .i64 q0] 3))
     have n0:some w.heap.size≠some g1:=fun e=>by injection e;omega
     exact⟨(zu S0R).below (S4.b.grown gr5 S4.b.size (fun j e=>by injection e;omega)),⟨gr5.cell S4.c.c0 n0,gr5.cell S4.c.c1 n0,gr5.cell S4.c.c2 n0,gr5.cell S4.c.c3 n0,gr5.cell S4.c.c4 n0,gr5.cell S4.c.c5 n0⟩,S4.b.grown gr5 S4.b.size (fun j e=>by injection e;omega),Nat.lt_of_lt_of_le S4.s gr5.size⟩)
    have OC5:=zh ((Shorts.own_alloc (zu OC3) (.cells #[.int .i64 q0] 3)).kept gr5 (fun e=>by injection e;omega))
    have OA5:=zh o5
    have g5n:g5≠g2:=by
     rcases loc5 with e|e
     ·omega
     ·have:g5=w3.heap.size+1:=by simpa using e
      omega
    have bs5:=(zu S5).b.size
    clear o5 gr5 loc5 OA3 OC3
    go_wp2_with (first|(at_builtin;refine Shorts.wp_appI _ rfl _ _ rfl (w.heap.size+1) g2 ps.length k2 (ps.map Prod.snd) w5.heap.size vv rfl rfl (Shorts.own_alloc (zu OC5) _) (by simp) (by omega) (by have:=(zu S5).s;simp;omega) ?_)|go_in)
    intro g6 c6' w6 o6 gr6 loc6
    have l3:=(zu OC5).lt
    have l4:=(zu OA5).lt
    have S6:=zh (show St w w6 x from by
     have S4:=(zu S5).step (one_more w5 (.cells #[.int .i64 vv] 3))
     have n0:some w.heap.size≠some g2:=fun e=>by injection e;omega
     exact⟨(zu S0R).below (S4.b.grown gr6 S4.b.size (fun j e=>by injection e;omega)),⟨gr6.cell S4.c.c0 n0,gr6.cell S4.c.c1 n0,gr6.cell S4.c.c2 n0,gr6.cell S4.c.c3 n0,gr6.cell S4.c.c4 n0,gr6.cell S4.c.c5 n0⟩,S4.b.grown gr6 S4.b.size (fun j e=>by injection e;omega),Nat.lt_of_lt_of_le S4.s gr6.size⟩)
    have OA6:=zh ((Shorts.own_alloc (zu OA5) (.cells #[.int .i64 vv] 3)).kept gr6 (fun e=>by injection e;omega))
    have OC6:=zh o6
    have g6n:g5≠g6:=by
     rcases loc6 with e|e
     ·omega
     ·have:g6=w5.heap.size+1:=by simpa using e
      omega
    clear o6 gr6 loc6
    go_wp2
    go_roundw
    case rel=>exact⟨ps++[(q0,vv)],g5,c5',g6,c6',k+1,by rw[show(ps++[(q0,vv)]).length=ps.length+1 by simp],by rw[show(ps++[(q0,vv)]).length=ps.length+1 by simp],by rw[sumH_append];simp[sumH],by go_num,by omega,by simp;omega,g6n,zh (zu NP1).symm,zh (by rw[show(ps++[(q0,vv)]).length=ps.length+1 by simp,List.map_append];exact zu OA6),zh (by rw[show(ps++[(q0,vv)]).length=ps.length+1 by simp,List.map_append];exact zu OC6),S6⟩
    case measure=>simp[intOf];omega
   ·have NP1:Hid (heldL x.b.bs i (x.b.ac.take (k+1))=ps):=zh (by rw[zu NP,if_neg own,List.append_nil])
    clear NP
    by_cases o1:q1=1
    ·have ov:¬0<vv:=fun e=>own ⟨o1,e⟩
     have ob:(q1==1)=true:=by simpa using o1
     clear own o1
     go_wp2
     go_roundw
     case rel=>exact⟨ps,g1,k1,g2,k2,k+1,rfl,rfl,rfl,by go_num,by omega,by omega,gne,zh (zu NP1).symm,OA3,OC3,S3⟩
     case measure=>simp[intOf];omega
    ·have ob:(q1==1)=false:=by simpa using o1
     clear own o1
     go_wp2
     go_roundw
     case rel=>exact⟨ps,g1,k1,g2,k2,k+1,rfl,rfl,rfl,by go_num,by omega,by omega,gne,zh (zu NP1).symm,OA3,OC3,S3⟩
     case measure=>simp[intOf];omega
  ·obtain rfl:k=x.b.ac.length:=by omega
   have EP:=zh (show ps=heldL x.b.bs i x.b.ac from by rw[zu HP,List.take_of_length_le (by omega)])
   obtain⟨b2,h2⟩:=says_of (Amt (sumH ps))
   have H2:=zh h2
   have B2:=zh (zu S2).b
   have s2:=(zu S2).s
   clear HP h2
   go_wp2_with fail
   refine(SOk5.sAmt (sumH ps) b2 _ (zu H2)).mono ?_
   rintro e v2 ⟨rfl,rfl⟩
   cases b2
   ·have N:=zh (show IsHeld x.b i [] [] 0 false from .inr ⟨fun hh=>(zu H2).no (by rw[zu EP];exact hh.2),rfl,rfl,rfl,rfl⟩)
    clear EP H2
    go_wp2
    refine bodyPost_ret (v:= .tuple #[.slice (some ⟨v2.heap.size,0,none⟩) 0 0,.slice (some ⟨v2.heap.size+1,0,none⟩) 0 0,.int .i64 0,.bool false]) (by simp[results,Tryz.results88,go_sem]) rfl ⟨[],[],0,false,v2.heap.size,0,v2.heap.size+1,0,zu N,rfl,by simp,rfl,?_,?_,by omega,?_⟩
    ·exact Shorts.own_alloc (Shorts.lit0 v2 w.heap.size (g:=v2.heap.size) (by omega) rfl) _
    ·exact Shorts.lit0 (v2.alloc (.cells #[] 3)) w.heap.size (g:=v2.heap.size+1) (by simp;omega) (by simp)
    ·exact((zu B2).alloc (by omega) _).alloc (by simp;omega) _
   ·have N:=zh (show IsHeld x.b i (ps.map Prod.fst) (ps.map Prod.snd) (sumH ps) true from .inl ⟨⟨zu YES,by have:=(zu H2).yes;rw[zu EP] at this;exact this⟩,by rw[zu EP],by rw[zu EP],by rw[zu EP],rfl⟩)
    clear EP H2
    go_wp2
    refine bodyPost_ret (v:= .tuple #[.slice (some ⟨g1,0,none⟩) ps.length k1,.slice (some ⟨g2,0,none⟩) ps.length k2,.int .i64 (sumH ps),.bool true]) (by simp[results,Tryz.results88,go_sem]) rfl ⟨_,_,_,true,g1,k1,g2,k2,zu N,by simp,by simp;omega,by simp,by rw[List.length_map];exact(zu OA).mono (by omega),by rw[List.length_map];exact(zu OC).mono (by omega),gne,zu B2⟩
end SHeld
end Go.Proofs.YtcjgepkdpkhljaaGreat
