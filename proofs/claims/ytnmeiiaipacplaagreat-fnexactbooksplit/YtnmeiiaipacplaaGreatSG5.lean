/- Texts of one proof, one behind the other: Mul5, STake, Shorts, IMean, IPl, ITake, Weigh, Quota, Order, Parts, Trd, Scale, SOrder, SShares, SScale, OrderEx, LotMore, ICmp, LegApp, IRead9, Concat3. -/
import Derived.Test.YtnmeiiaipacplaaGreatRows
import Derived.Test.YtnmeiiaipacplaaGreatSG1
import Derived.Test.YtnmeiiaipacplaaGreatSG2
import Derived.Test.YtnmeiiaipacplaaGreatSG3
import Derived.Test.YtnmeiiaipacplaaGreatSG4
import Derived.BigRegion
import Derived.Maps.AppendAt
import Derived.Lib.SliceRun
import Derived.WalkSmall
import Derived.BigQuiet
import Derived.Deep.QuietTactic
import Derived.Sort.Statements
import Derived.Deep.RegionHeld3
import Derived.Sort.Grow
import Derived.Deep.AppendLies
import Derived.Lib.AppendZerosOnto
import Derived.Lib.AppendZeros
set_option linter.unusedVariables false
set_option linter.unusedSimpArgs false
open Go.ChangeShapes Go.WideShapes Go.ChangeAt Go.RowKit
set_option maxRecDepth 100000
set_option maxHeartbeats 32000000
namespace Go.Proofs.YtnmeiiaipacplaaGreat
namespace MulC
open Wide Small Plain
def Tells(a b c q r:Int)(ok:Bool):Prop:=
 (a*b/c≤1000000000000000∧q=a*b/c∧r=a*b%c∧ok=true)∨(1000000000000000<a*b/c∧q=0∧r=0∧ok=false)
theorem out(a b c q r x:Int)(ok:Bool)(k:Nat)(h:Tells a b c q r ok)(hx:x=Pn a b k/c)(a0:0≤a)(b0:0≤b)(hc:0<c)(hb:1000000000000000<x):q=0∧r=0∧ok=false:=by
 have:=Pn_le a b c k a0 b0 hc
 rcases h with h|h
 ·omega
 ·exact h.2
theorem fin(a b c q r x y:Int)(ok:Bool)(h:Tells a b c q r ok)(hx:x=Pn a b 0/c)(hy:y=Pn a b 0%c)(hb:x≤1000000000000000):q=x∧r=y∧ok=true:=by
 rw[Pn_zero] at hx hy
 rcases h with h|h
 ·exact⟨h.2.1.trans hx.symm,h.2.2.1.trans hy.symm,h.2.2.2⟩
 ·omega
theorem sMD(a b c q r:Int)(ok:Bool)(w:World)(a0:0≤a)(a1:a≤1000000000000000)(b0:0≤b)(b1:b≤1000000000000000)(c0:1≤c)(c1:c≤1000000000000000)(ht:Hid (Tells a b c q r ok)):
  Calls Tryz.prog 34 #[.int .i64 a,.int .i64 b,.int .i64 c] w fun e w'=>e= .returned (.tuple #[.int .i64 q,.int .i64 r,.bool ok])∧w'=w:=by
 have u0:0≤b/c:=Int.ediv_nonneg b0 (by omega)
 have u1:b/c≤1000000000000000:=Int.le_trans (Int.ediv_le_self _ b0) b1
 have v0:0≤b%c:=Int.emod_nonneg _ (by omega)
 have v1:b%c<c:=Int.emod_lt_of_pos _ (by omega)
 have S:=zh (show(0:Int)=Pn a b 51/c∧(0:Int)=Pn a b 51%c by rw[Pn_start a b a0 a1,Int.zero_ediv,Int.zero_emod];exact⟨rfl,rfl⟩)
 go_enter Tryz.func34,Tryz.ntmps34
 go_wp2
 go_loop [9,10,11] (fun q r i=>∃(n:Nat) (x y:Int),n≤51∧i= .int .i64 ((n:Int) -1)∧q= .int .i64 x∧r= .int .i64 y∧0≤x∧x≤1000000000000000∧0≤y∧y<c∧Hid (x=Pn a b n/c∧y=Pn a b n%c))
  (fun _ _ i=>(intOf i+1).toNat)
 case atStart=>exact⟨51,0,0,by omega,by go_num,rfl,rfl,by omega,by omega,by omega,by omega,S⟩
 case round=>
  obtain⟨n,x,y,hn,rfl,rfl,rfl,x0,x1,y0,y1,HD⟩:=hrel
  clear S
  by_cases hlt:1≤n
  ·obtain⟨k,rfl⟩:∃k,n=k+1:=⟨n-1,by omega⟩
   have D:=zh (double a b c x y k (by omega) (zu HD).1 (zu HD).2)
   have ps:=zh (Pn_step a b k)
   rcases bit a k with⟨m0,mb⟩|⟨m0,mb⟩
   ·have ps':=zu ps
    rw[m0,Int.zero_mul,Int.add_zero] at ps'
    have PS:=zh ps'
    clear ps ps' m0
    by_cases t:c≤2*y
    ·have f:=(zu D).2 t
     rw[←zu PS] at f
     have F:=zh f
     have O:=zh (out a b c q r (2*x+1) ok k (zu ht) f.1 a0 b0 (by omega))
     clear f D PS HD ht
     go_wp2
     ·have hb:1000000000000000<2*x+1:=by assumption
      obtain⟨e1,e2,e3⟩:=(zu O) hb
      go_ret3
      exact⟨by rw[e1,e2,e3];rfl,rfl⟩
     ·go_round
      case rel=>exact⟨k,2*x+1,2*y-c,by omega,by go_num,rfl,rfl,by omega,by assumption,by omega,by omega,F⟩
      case measure=>simp[intOf]
    ·have f:=(zu D).1 (by omega)
     rw[←zu PS] at f
     have F:=zh f
     have O:=zh (out a b c q r (2*x) ok k (zu ht) f.1 a0 b0 (by omega))
     clear f D PS HD ht
     go_wp2
     ·have hb:1000000000000000<2*x:=by assumption
      obtain⟨e1,e2,e3⟩:=(zu O) hb
      go_ret3
      exact⟨by rw[e1,e2,e3];rfl,rfl⟩
     ·go_round
      case rel=>exact⟨k,2*x,2*y,by omega,by go_num,rfl,rfl,by omega,by assumption,by omega,by omega,F⟩
      case measure=>simp[intOf]
   ·have ps':=zu ps
    rw[m0,Int.one_mul] at ps'
    have PS:=zh ps'
    clear ps ps' m0
    by_cases t:c≤2*y
    ·have g:=(zu D).2 t
     have h:=step_add (2*Pn a b (k+1)) b c (2*x+1) (2*y-c) (by omega) g.1 g.2
     rw[←zu PS] at h
     have A:=zh h
     clear g h D
     by_cases s:c≤2*y-c+b%c
     ·have f:=(zu A).2 s
      have F:=zh f
      have O:=zh (out a b c q r (2*x+1+b/c+1) ok k (zu ht) f.1 a0 b0 (by omega))
      clear f A PS HD ht
      go_wp2
      ·have hb:1000000000000000<2*x+1+b/c+1:=by assumption
       obtain⟨e1,e2,e3⟩:=(zu O) hb
       go_ret3
       exact⟨by rw[e1,e2,e3];rfl,rfl⟩
      ·go_round
       case rel=>exact⟨k,2*x+1+b/c+1,2*y-c+b%c-c,by omega,by go_num,rfl,rfl,by omega,by assumption,by omega,by omega,F⟩
       case measure=>simp[intOf]
     ·have f:=(zu A).1 (by omega)
      have F:=zh f
      have O:=zh (out a b c q r (2*x+1+b/c) ok k (zu ht) f.1 a0 b0 (by omega))
      clear f A PS HD ht
      go_wp2
      ·have hb:1000000000000000<2*x+1+b/c:=by assumption
       obtain⟨e1,e2,e3⟩:=(zu O) hb
       go_ret3
       exact⟨by rw[e1,e2,e3];rfl,rfl⟩
      ·go_round
       case rel=>exact⟨k,2*x+1+b/c,2*y-c+b%c,by omega,by go_num,rfl,rfl,by omega,by assumption,by omega,by omega,F⟩
       case measure=>simp[intOf]
    ·have g:=(zu D).1 (by omega)
     have h:=step_add (2*Pn a b (k+1)) b c (2*x) (2*y) (by omega) g.1 g.2
     rw[←zu PS] at h
     have A:=zh h
     clear g h D
     by_cases s:c≤2*y+b%c
     ·have f:=(zu A).2 s
      have F:=zh f
      have O:=zh (out a b c q r (2*x+b/c+1) ok k (zu ht) f.1 a0 b0 (by omega))
      clear f A PS HD ht
      go_wp2
      ·have hb:1000000000000000<2*x+b/c+1:=by assumption
       obtain⟨e1,e2,e3⟩:=(zu O) hb
       go_ret3
       exact⟨by rw[e1,e2,e3];rfl,rfl⟩
      ·go_round
       case rel=>exact⟨k,2*x+b/c+1,2*y+b%c-c,by omega,by go_num,rfl,rfl,by omega,by assumption,by omega,by omega,F⟩
       case measure=>simp[intOf]
     ·have f:=(zu A).1 (by omega)
      have F:=zh f
      have O:=zh (out a b c q r (2*x+b/c) ok k (zu ht) f.1 a0 b0 (by omega))
      clear f A PS HD ht
      go_wp2
      ·have hb:1000000000000000<2*x+b/c:=by assumption
       obtain⟨e1,e2,e3⟩:=(zu O) hb
       go_ret3
       exact⟨by rw[e1,e2,e3];rfl,rfl⟩
      ·go_round
       case rel=>exact⟨k,2*x+b/c,2*y+b%c,by omega,by go_num,rfl,rfl,by omega,by assumption,by omega,by omega,F⟩
       case measure=>simp[intOf]
  ·obtain rfl:n=0:=by omega
   have E:=zh (fin a b c q r x y ok (zu ht) (zu HD).1 (zu HD).2 x1)
   clear HD ht
   go_wp2
   obtain⟨e1,e2,e3⟩:=zu E
   go_ret3
   exact⟨by rw[e1,e2,e3];rfl,rfl⟩
theorem prod_bd(a b H L:Int)(a0:0≤a)(a1:a≤1000000000000000)(b0:0≤b)(b1:b≤1000000000000000)(hH:H=a*b/18446744073709551616)(hL:L=a*b%18446744073709551616):
  0≤H∧H≤18446744073709551615∧0≤L∧L≤18446744073709551615:=by
 have:=mul_bd a0 a1 b0 b1
 omega
theorem iMD(a b c q r:Int)(ok:Bool)(w:World)(a0:0≤a)(a1:a≤1000000000000000)(b0:0≤b)(b1:b≤1000000000000000)(c0:1≤c)(c1:c≤1000000000000000)(ht:Hid (Tells a b c q r ok)):
  Calls Tryz.prog 47 #[.int .i64 a,.int .i64 b,.int .i64 c] w fun e w'=>e= .returned (.tuple #[.int .i64 q,.int .i64 r,.bool ok])∧Gr w w':=by
 obtain⟨H,hH⟩:∃H,H=a*b/18446744073709551616:=⟨_,rfl⟩
 obtain⟨L,hL⟩:∃L,L=a*b%18446744073709551616:=⟨_,rfl⟩
 obtain⟨H0,H1,L0,L1⟩:=prod_bd a b H L a0 a1 b0 b1 hH hL
 obtain⟨l1,l2⟩:=long (a*b) c (by omega)
 rw[←hH,←hL] at l1 l2
 obtain⟨h,hh⟩:∃h,h=H/c:=⟨_,rfl⟩
 obtain⟨x,hx⟩:∃x,x=V H L c 64/c:=⟨_,rfl⟩
 obtain⟨y,hy⟩:∃y,y=V H L c 64%c:=⟨_,rfl⟩
 rw[←hh,←hx] at l1
 rw[←hy] at l2
 have h0:0≤h:=by rw[hh];exact Int.ediv_nonneg H0 (by omega)
 have x0:0≤x:=by rw[hx];exact Int.ediv_nonneg (V_bound H L c 64 (by omega) (by omega) L0 L1).1 (by omega)
 have y0:0≤y:=by rw[hy];exact Int.emod_nonneg _ (by omega)
 have y1:y<c:=by rw[hy];exact Int.emod_lt_of_pos _ (by omega)
 have t:=zu ht
 unfold Tells at t
 rw[l1,l2] at t
 have T:=zh t
 have EH:=zh hH
 have EL:=zh hL
 have Eh:=zh hh
 have Ex:=zh hx
 have Ey:=zh hy
 clear hH hL hh hx hy l1 l2 t ht
 by_cases z:h=0
 ·by_cases s:x≤1000000000000000
  ·have T2:Hid (q=x∧r=y∧ok=true):=by
    rcases zu T with k|k
    ·exact zh ⟨by omega,k.2.2.1,k.2.2.2⟩
    ·omega
   subst z
   clear T
   go_enter Tryz.func47,Tryz.ntmps47
   go_wp2_with (first|(go_at_call 103;go_in)|fail)
   refine(product a b H L _ a0 b0 a1 b1 EH EL).mono ?_
   rintro e w1 ⟨rfl,g1⟩
   go_wp2_with fail
   refine(divide H L c 0 x y _ H0 H1 L0 L1 c0 c1 Eh Ex Ey).mono ?_
   rintro e w2 ⟨rfl,g2⟩
   go_wp2_with fail
   refine(amount_yes x _ x0 s).mono ?_
   rintro e w3 ⟨rfl,g3⟩
   go_wp2
   obtain⟨e1,e2,e3⟩:=zu T2
   go_ret3
   exact⟨by rw[e1,e2,e3];rfl,Gr.trans g1 (Gr.trans g2 (Gr.trans (Gr.alloc (Gr.refl _) _ _) g3))⟩
  ·have T2:Hid (q=0∧r=0∧ok=false):=by
    rcases zu T with k|k
    ·omega
    ·exact zh k.2
   subst z
   clear T
   go_enter Tryz.func47,Tryz.ntmps47
   go_wp2_with (first|(go_at_call 103;go_in)|fail)
   refine(product a b H L _ a0 b0 a1 b1 EH EL).mono ?_
   rintro e w1 ⟨rfl,g1⟩
   go_wp2_with fail
   refine(divide H L c 0 x y _ H0 H1 L0 L1 c0 c1 Eh Ex Ey).mono ?_
   rintro e w2 ⟨rfl,g2⟩
   go_wp2_with fail
   refine(amount_low x _ (by omega)).mono ?_
   rintro e w3 ⟨rfl,g3⟩
   go_wp2
   obtain⟨e1,e2,e3⟩:=zu T2
   go_ret3
   exact⟨by rw[e1,e2,e3];rfl,Gr.trans g1 (Gr.trans g2 (Gr.trans (Gr.alloc (Gr.refl _) _ _) g3))⟩
 ·have T2:Hid (q=0∧r=0∧ok=false):=by
   rcases zu T with k|k
   ·omega
   ·exact zh k.2
  clear T
  go_enter Tryz.func47,Tryz.ntmps47
  go_wp2_with (first|(go_at_call 103;go_in)|fail)
  refine(product a b H L _ a0 b0 a1 b1 EH EL).mono ?_
  rintro e w1 ⟨rfl,g1⟩
  go_wp2_with fail
  refine(divide H L c h x y _ H0 H1 L0 L1 c0 c1 Eh Ex Ey).mono ?_
  rintro e w2 ⟨rfl,g2⟩
  go_wp2_with fail
  refine(amount_high h x _ (by omega)).mono ?_
  rintro e w3 ⟨rfl,g3⟩
  go_wp2
  obtain⟨e1,e2,e3⟩:=zu T2
  go_ret3
  exact⟨by rw[e1,e2,e3];rfl,Gr.trans g1 (Gr.trans g2 (Gr.trans (Gr.alloc (Gr.refl _) _ _) g3))⟩
end MulC
namespace STake
open Tup5 Lots Takes SOk5 SSplit Quieter ICut Cat5
open CmpL (at0)
theorem not_of{b:Bool}{p:Prop}(h:Says b (¬p))(r:¬p):b=true:=h.of r
end STake
namespace Shorts
open BMem Bks ILists
theorem own_of_row{w:World}{base n n':Nat}{v:Value}{vs:List Value}{xs:List Int}(h:w.ownsRow base 3 1 v n vs)(hn:n=n')(e:vs=xs.map (Value.int .i64))(hv:¬v= .slice none 0 0):
  ∃g c,v= .slice (some ⟨g,0,none⟩) n' c∧Ints.Own w base g n' c xs:=by
 subst hn e
 have h':=h
 rcases h.2 with⟨h1,_⟩|⟨g,c,cur,rfl,_⟩
 ·exact absurd h1 hv
 ·exact⟨g,c,rfl,h'⟩
theorem own_alloc{w:World}{base g n cap:Nat}{xs:List Int}(h:Ints.Own w base g n cap xs)(o:Obj):Ints.Own (w.alloc o) base g n cap xs:=World.ownsRow.alloc h o
theorem lit0(w:World)(base:Nat){g:Nat}(hb:base≤w.heap.size)(hg:g=w.heap.size):Ints.Own (w.alloc (.cells #[] 3)) base g 0 0 []:=by
 subst hg
 exact World.ownsRow_lit w #[] 0 hb (by decide) rfl
theorem wp_appI(u:World){ops:Array Oper}{rest:List Oper}{o:Oper}{a:Act}{Q:Exit→Act→World→Prop}(hgd:o.guard=none)(s x:Operand)
  (ho:o.op= .call {callee:= .builtin .append,args:= #[s,x],argTypes:= #[43,43]})(base g n cap:Nat)(xs:List Int)(vb:Nat)(y:Int)
  (hs:a.eval s= .slice (some ⟨g,0,none⟩) n cap)(hx:a.eval x= .slice (some ⟨vb,0,none⟩) 1 1)(hown:Ints.Own u base g n cap xs)(hv:u.cell? ⟨vb,0,none⟩=some (.int .i64 y))(hn:n≤1048576)(hb:base≤u.heap.size)
  (h:∀g' c' w',Ints.Own w' base g' (n+1) c' (xs++[y])→u.grownBy w' (some g)→(g'=g∨g'=u.heap.size)→wpList Tryz.prog ops Q rest (a.put o.dst (.slice (some ⟨g',0,none⟩) (n+1) c')) w'):wpList Tryz.prog ops Q (o::rest) a u:=by
 obtain⟨i0,hi,hz0,hz1,hz2⟩:=info_parts Ints.info3
 refine wpList_append_own_at u hgd s x 43 ho base 3 i0 (.int .i64 0) 1 8 Tryz.underlying43 hi hz0 hz1 hz2 rfl (by decide) _ n _ hs hown ⟨vb,0,none⟩ 1 1 [.int .i64 y] hx rfl (fun j v hj=>by
  cases j with
  |zero=>
   have e:v= .int .i64 y:=by simpa using hj.symm
   rw[e]
   simpa[Addr.add] using hv
  |succ j=>simp at hj) (by simp[Value.oneCell']) (by unfold maxLen;omega) (by omega) hb ?_
 intro v' w' own' gr' nil' loc'
 obtain⟨g',c',rfl,o'⟩:=own_of_row (n':=n+1) (xs:=xs++[y]) own' rfl (by simp) (by rw[nil'];simp)
 exact h g' c' w' o' gr' (by simpa[Value.ownBlock] using loc')
theorem sShort(w:World)(x:Bx)(h:Rd w x):
  Calls Tryz.prog 91 #[.agg #[.slice (some ⟨x.ga,0,none⟩) x.b.ac.length x.ca,.slice (some ⟨x.gi,0,none⟩) x.b.ic.length x.ci,.slice (some ⟨x.gb,0,none⟩) x.b.bs.length x.cb,.slice (some ⟨x.gl,0,none⟩) x.b.ls.length x.cl,.slice (some ⟨x.gt,0,none⟩) x.b.ts.length x.ct,.int .i64 x.b.lot]] w fun e w'=>∃g c,e= .returned (.slice (some ⟨g,0,none⟩) (shortL x.b.ac).length c)∧Ints.Own w' w.heap.size g (shortL x.b.ac).length c (shortL x.b.ac)∧Below w.heap.size w w':=by
 have na:=h.na
 have la:=h.la
 have R0:=zh ((h.alloc (.cells #[.slice (some ⟨x.ga,0,none⟩) x.b.ac.length x.ca,.slice (some ⟨x.gi,0,none⟩) x.b.ic.length x.ci,.slice (some ⟨x.gb,0,none⟩) x.b.bs.length x.cb,.slice (some ⟨x.gl,0,none⟩) x.b.ls.length x.cl,.slice (some ⟨x.gt,0,none⟩) x.b.ts.length x.ct,.int .i64 x.b.lot] 36)).alloc (.cells #[] 3))
 have O0:=zh (lit0 (w.alloc (.cells #[.slice (some ⟨x.ga,0,none⟩) x.b.ac.length x.ca,.slice (some ⟨x.gi,0,none⟩) x.b.ic.length x.ci,.slice (some ⟨x.gb,0,none⟩) x.b.bs.length x.cb,.slice (some ⟨x.gl,0,none⟩) x.b.ls.length x.cl,.slice (some ⟨x.gt,0,none⟩) x.b.ts.length x.ct,.int .i64 x.b.lot] 36)) (w.heap.size+1) (g:=w.heap.size+1) (by simp) (by simp))
 have C0:=zh ((boxed w x 36).below (IBalsFit.one_more _ (.cells #[] 3)) (by simp))
 have B0:=zh (show Below w.heap.size w ((w.alloc (.cells #[.slice (some ⟨x.ga,0,none⟩) x.b.ac.length x.ca,.slice (some ⟨x.gi,0,none⟩) x.b.ic.length x.ci,.slice (some ⟨x.gb,0,none⟩) x.b.bs.length x.cb,.slice (some ⟨x.gl,0,none⟩) x.b.ls.length x.cl,.slice (some ⟨x.gt,0,none⟩) x.b.ts.length x.ct,.int .i64 x.b.lot] 36)).alloc (.cells #[] 3)) from((Below.refl _ _).alloc (Nat.le_refl _) _).alloc (by simp) _)
 have s0:((w.alloc (.cells #[.slice (some ⟨x.ga,0,none⟩) x.b.ac.length x.ca,.slice (some ⟨x.gi,0,none⟩) x.b.ic.length x.ci,.slice (some ⟨x.gb,0,none⟩) x.b.bs.length x.cb,.slice (some ⟨x.gl,0,none⟩) x.b.ls.length x.cl,.slice (some ⟨x.gt,0,none⟩) x.b.ts.length x.ct,.int .i64 x.b.lot] 36)).alloc (.cells #[] 3)).heap.size=w.heap.size+1+1:=by simp
 clear h
 go_enter Tryz.func91,Tryz.ntmps91
 go_wp2
 generalize (w.alloc (.cells #[.slice (some ⟨x.ga,0,none⟩) x.b.ac.length x.ca,.slice (some ⟨x.gi,0,none⟩) x.b.ic.length x.ci,.slice (some ⟨x.gb,0,none⟩) x.b.bs.length x.cb,.slice (some ⟨x.gl,0,none⟩) x.b.ls.length x.cl,.slice (some ⟨x.gt,0,none⟩) x.b.ts.length x.ct,.int .i64 x.b.lot] 36)).alloc (.cells #[] 3)=w0 at *
 go_loopw [3,4] (fun l j wr=>∃(p:List Int) (g1 c1 k:Nat),l= .slice (some ⟨g1,0,none⟩) p.length c1∧j= .int .i64 k∧k≤x.b.ac.length∧p.length≤k∧Hid (p=shortL (x.b.ac.take k))∧Hid (Ints.Own wr (w.heap.size+1) g1 p.length c1 p)∧Hid (Below (w.heap.size+1) w0 wr)) (fun _ j _=>x.b.ac.length-(intOf j).toNat)
 case atStart=>exact⟨[],w.heap.size+1,0,0,rfl,rfl,by omega,by simp,zh rfl,O0,zh (Below.refl _ _)⟩
 case round=>
  clear O0
  obtain⟨p,g1,c1,k,rfl,rfl,hk,pl,HP,H1,HB⟩:=hrel
  have bs:=(zu HB).size
  obtain⟨c0,_,_,_,_,_⟩:=(zu C0).below (zu HB) (by omega)
  by_cases t:k<x.b.ac.length
  ·obtain⟨e0,e1⟩:=(zu R0).ra.below (zu HB) (by omega) k t
   have NP:=zh (short_next (ps:=x.b.ac) (k:=k) t)
   rw[←zu HP] at NP
   obtain⟨no,hno⟩:∃no,Hid ((x.b.ac.getD k (0,0)).1=no):=⟨_,rfl⟩
   obtain⟨kd,hkd⟩:∃kd,Hid ((x.b.ac.getD k (0,0)).2=kd):=⟨_,rfl⟩
   rw[zu hno] at e0
   rw[zu hkd] at e1
   have NQ:=zh (show shortL (x.b.ac.take (k+1))=p++(if kd=1 then[] else[no]) from by
    first|(rw[zu NP,←zu hno,←zu hkd];done)|(rw[zu NP,←zu hno,←zu hkd];rfl))
   clear NP hno hkd
   by_cases own:kd=1
   ·have NP1:Hid (shortL (x.b.ac.take (k+1))=p):=zh (by rw[zu NQ,if_pos own,List.append_nil])
    clear NQ
    subst own
    go_wp2
    go_roundw
    case rel=>exact⟨p,g1,c1,k+1,rfl,by go_num,by omega,by omega,zh (zu NP1).symm,H1,HB⟩
    case measure=>simp[intOf];omega
   ·have NP1:Hid (shortL (x.b.ac.take (k+1))=p++[no]):=zh (by rw[zu NQ,if_neg own])
    have ob:(kd !=1)=true:=by simpa using own
    clear NQ own
    go_wp2_with (first|(at_builtin;refine wp_appI _ rfl _ _ rfl (w.heap.size+1) g1 p.length c1 p wr.heap.size no rfl rfl (own_alloc (zu H1) _) (by simp) (by omega) (by simp;omega) ?_)|go_in)
    intro g5 c5 w5 o5 gr5 loc5
    have O5:=zh o5
    have B5:=zh (((zu HB).alloc (by omega) (.cells #[.int .i64 no] 3)).grown gr5 (by simp;omega) (fun j hj=>by cases hj;exact(zu H1).lt.1))
    clear o5 gr5 loc5
    go_wp2
    go_roundw
    case rel=>exact⟨p++[no],g5,c5,k+1,by rw[show(p++[no]).length=p.length+1 by simp],by go_num,by omega,by simp;omega,zh (zu NP1).symm,zh (by rw[show(p++[no]).length=p.length+1 by simp];exact zu O5),B5⟩
    case measure=>simp[intOf];omega
  ·obtain rfl:k=x.b.ac.length:=by omega
   have EP:=zh (show p=shortL x.b.ac by rw[zu HP,List.take_of_length_le (by omega)])
   clear HP
   go_wp2
   go_ret
   rw[←zu EP]
   exact⟨g1,c1,rfl,(zu H1).mono (by omega),(zu B0).trans ((zu HB).mono (by omega))⟩
end Shorts
namespace IMean
open Tup5 Lots Takes CmpL IOk5 Quieter IPlace5 ICut Cat5 Concat5
theorem iWith(w:World)(g1 o1 n1 c1 g2 o2 n2 c2 g3 o3 n3 c3:Nat)(v2:Value)(p1 p2 p3:List T5)(l1:p1.length=n1)(l2:p2.length=n2)(l3:p3.length=n3)(h20:n1+n2+n3≤1048576)
  (q1:g1<w.heap.size)(q2:g2<w.heap.size)(q3:g3<w.heap.size)(a1:AtO w g1 o1 p1)(a2:AtO w g2 o2 p2)(a3:AtO w g3 o3 p3):
  Calls Tryz.prog 186 #[.agg #[.slice (some ⟨g1,o1,none⟩) n1 c1,v2,.slice (some ⟨g3,o3,none⟩) n3 c3],.slice (some ⟨g2,o2,none⟩) n2 c2] w fun e w'=>∃v,e= .returned v∧OwnV 123 w' w.heap.size v (p1++(p2++p3))∧Below w.heap.size w w':=by
 have A1:=zh a1
 have A2:=zh a2
 have A3:=zh a3
 clear a1 a2 a3
 have BW:=zh (show Below w.heap.size w ((w.alloc (.cells #[.slice (some ⟨g1,o1,none⟩) n1 c1,v2,.slice (some ⟨g3,o3,none⟩) n3 c3] 202)).alloc (.cells #[.slice (some ⟨g1,o1,none⟩) n1 c1,.slice (some ⟨g2,o2,none⟩) n2 c2,.slice (some ⟨g3,o3,none⟩) n3 c3] 33)) from((Below.refl _ _).alloc (Nat.le_refl _) _).alloc (by simp) _)
 have CC:=zh (iConcat ((w.alloc (.cells #[.slice (some ⟨g1,o1,none⟩) n1 c1,v2,.slice (some ⟨g3,o3,none⟩) n3 c3] 202)).alloc (.cells #[.slice (some ⟨g1,o1,none⟩) n1 c1,.slice (some ⟨g2,o2,none⟩) n2 c2,.slice (some ⟨g3,o3,none⟩) n3 c3] 33)) (w.heap.size+1) g1 o1 n1 c1 g2 o2 n2 c2 g3 o3 n3 c3 p1 p2 p3 l1 l2 l3 h20 (by simp) (by simp;omega) (by simp;omega) (by simp;omega) ((zu A1).below (zu BW) q1) ((zu A2).below (zu BW) q2) ((zu A3).below (zu BW) q3) (by simp) (by simp) (by simp))
 go_enter Tryz.func186,Tryz.ntmps186
 go_wp2_with fail
 refine(zu CC).mono ?_
 rintro e w1 ⟨v,rfl,ov,b1⟩
 have OV:=zh (ov.rebase (base':=w.heap.size) (zu BW).size)
 have B1:=zh ((zu BW).trans (b1.mono (zu BW).size))
 clear ov b1 CC BW
 go_wp2
 go_ret
 exact⟨v,rfl,zu OV,zu B1⟩
end IMean
namespace IPl
open Tup5 Lots Takes
def Cell(w:World)(base b:Nat)(x:Int):Prop:=w.ownsRow base 3 1 (.slice (some ⟨b,0,none⟩) 1 1) 1 [.int .i64 x]
theorem Cell.cell{w:World}{base b:Nat}{x:Int}(h:Cell w base b x):w.cell? ⟨b,0,none⟩=some (.int .i64 x):=World.ownsRow.cellAt h 0 (by omega)
theorem Cell.free{w:World}{base b:Nat}{x:Int}(h:Cell w base b x):w.frozen? ⟨b,0,none⟩=false:=World.ownsRow.frozenAt h 0
theorem Cell.lt{w:World}{base b:Nat}{x:Int}(h:Cell w base b x):base≤b∧b<w.heap.size:=World.ownsRow.lt h b rfl
theorem Cell.alloc{w:World}{base b:Nat}{x:Int}(h:Cell w base b x)(o:Obj):Cell (w.alloc o) base b x:=World.ownsRow.alloc h o
theorem Cell.kept{w w':World}{base b:Nat}{x:Int}{row:Option Nat}(h:Cell w base b x)(k:w.grownBy w' row)(hne:some b≠row):Cell w' base b x:=World.ownsRow.kept h k (Or.inr hne)
theorem Cell.below{w w':World}{base b B:Nat}{x:Int}(h:Cell w base b x)(k:Below B w w')(hb:b<B):Cell w' base b x:=by
 refine⟨h.1,?_⟩
 rcases h.2 with⟨h1,_⟩|⟨g',c,cur,h1,h2,h3,h4⟩
 ·simp at h1
 ·obtain⟨e,_⟩:b=g'∧1=c:=by simpa using h1
  subst e
  exact Or.inr ⟨b,c,cur,h1,h2,by rw[k.block b hb];exact h3,h4⟩
theorem Cell.set{w:World}{base b:Nat}{x:Int}(h:Cell w base b x)(y:Int):Cell (w.setCell ⟨b,0,none⟩ (.int .i64 y)) base b y∧w.grownBy (w.setCell ⟨b,0,none⟩ (.int .i64 y)) (some b):=World.ownsRow.stored h 0 (.int .i64 y)
theorem Cell.drewN{w:World}{base b:Nat}{x:Int}(h:Cell w base b x)(m:Nat):Cell (w.drewN m) base b x:=h
end IPl
namespace ITake
open Tup5 Lots Takes CmpL IOk5 Quieter IPlace5 ICut Cat5 Concat5 IMean STake
theorem cut_merge'{ps L:List T5}{a i:Int}{f u n:Nat}(h:Cut ps a i f u)(hL:∀y∈L,y.1=a∧y.2.1=i)(hn:(restL ps a i).length+L.length≤n):mergeL n (restL ps a i) L=putBack ps f u L:=by
 rw[(cut_own h).2] at hn⊢
 obtain⟨h1,h2,h3,h4,h5⟩:=h
 refine merge_mid n _ _ _ (by rw[List.length_append] at hn;omega) (fun x hx y hy=>?_) (fun x hx y hy=>?_)
 ·obtain⟨t,ht,_,rfl⟩:=mem_take hx
  have:=h3 t ht
  have:=hL y hy
  unfold KLt at *
  unfold Bef
  omega
 ·obtain⟨t,ht,hl,rfl⟩:=mem_drop hx
  have:=h5 t ht hl
  have:=hL y hy
  unfold KGt at *
  unfold Bef
  omega
end ITake
namespace Weigh
open Ints Small
def S(xs:List Int):Nat→Int
 |0=>0
 |k+1=>S xs k+xs.getD k 0
def Wt(x:Int):Prop:=0≤x∧x≤1000000000000000
def Good(xs:List Int):Prop:=
 (1≤xs.length∧xs.length≤40)∧(∀i,i<xs.length→Wt (xs.getD i 0))∧1≤S xs xs.length∧S xs xs.length≤1000000000000000
theorem S_nonneg(xs:List Int)(n:Nat)(h:∀i,i<n→Wt (xs.getD i 0)):0≤S xs n:=by
 induction n with
 |zero=>exact Int.le_refl _
 |succ n ih=>
  have:=ih (fun i hi=>h i (by omega))
  have:=(h n (by omega)).1
  show 0≤S xs n+xs.getD n 0
  omega
theorem S_le(xs:List Int)(n:Nat)(h:∀i,i<n→Wt (xs.getD i 0)):S xs n≤1000000000000000*(n:Int):=by
 induction n with
 |zero=>simp[S]
 |succ n ih=>
  have:=ih (fun i hi=>h i (by omega))
  have:=(h n (by omega)).2
  show S xs n+xs.getD n 0≤_
  omega
theorem S_mono(xs:List Int)(k n:Nat)(hk:k≤n)(h:∀i,i<n→Wt (xs.getD i 0)):S xs k≤S xs n:=by
 induction n with
 |zero=>
  obtain rfl:k=0:=by omega
  exact Int.le_refl _
 |succ n ih=>
  by_cases e:k=n+1
  ·subst e;exact Int.le_refl _
  ·have:=ih (by omega) (fun i hi=>h i (by omega))
   have:=(h n (by omega)).1
   show _≤S xs n+xs.getD n 0
   omega
theorem S_one(xs:List Int)(i n:Nat)(hi:i<n)(h:∀i,i<n→Wt (xs.getD i 0)):xs.getD i 0≤S xs n:=by
 have:=S_mono xs (i+1) n (by omega) h
 have:=S_nonneg xs i (fun j hj=>h j (by omega))
 have e:S xs (i+1)=S xs i+xs.getD i 0:=rfl
 omega
theorem sAll(w:World)(g n cap:Nat)(xs:List Int)(hl:xs.length=n)(h40:n≤40)(hx:∀i,i<n→Wt (xs.getD i 0))(h:At w g xs):
  Calls Tryz.prog 160 #[.slice (some ⟨g,0,none⟩) n cap] w fun e w'=>e= .returned (.int .i64 (S xs n))∧w'=w:=by
 go_enter Tryz.func160,Tryz.ntmps160
 go_wp2
 go_loop [3,4] (fun s i=>∃(k:Nat),k≤n∧i= .int .i64 k∧s= .int .i64 (S xs k)) (fun _ i=>n-(intOf i).toNat)
 case atStart=>exact⟨0,by omega,rfl,rfl⟩
 case round=>
  obtain⟨k,hk,rfl,rfl⟩:=hrel
  by_cases t:k<n
  ·have e1:=h k (by omega)
   have s0:=S_nonneg xs k (fun i hi=>hx i (by omega))
   have s1:=S_le xs k (fun i hi=>hx i (by omega))
   obtain⟨x0,x1⟩:=hx k t
   have E:=zh (show S xs (k+1)=S xs k+xs.getD k 0 from rfl)
   clear h hx
   generalize xs.getD k 0=z at *
   generalize S xs k=s at *
   go_wp2
   go_round
   case rel=>exact⟨k+1,by omega,by go_num,by rw[zu E]⟩
   case measure=>simp[intOf];omega
  ·obtain rfl:k=n:=by omega
   clear h hx
   go_wp2
   go_ret
   exact⟨rfl,rfl⟩
theorem sIn(x lo hi:Int)(b:Bool)(w:World)(hb:Hid (b=true↔lo≤x∧x≤hi)):
  Calls Tryz.prog 70 #[.int .i64 x,.int .i64 lo,.int .i64 hi] w fun e w'=>e= .returned (.bool b)∧w'=w:=by
 cases b
 ·have H:=zh (show lo≤x→¬x≤hi from fun h1 h2=>Bool.noConfusion ((zu hb).2 ⟨h1,h2⟩))
  clear hb
  by_cases h1:lo≤x
  ·have h2:=(zu H) h1
   clear H
   go_enter Tryz.func70,Tryz.ntmps70
   go_wp2
   go_ret
   exact⟨rfl,rfl⟩
  ·clear H
   go_enter Tryz.func70,Tryz.ntmps70
   go_wp2
   go_ret
   exact⟨rfl,rfl⟩
 ·obtain⟨h1,h2⟩:=(zu hb).1 rfl
  clear hb
  go_enter Tryz.func70,Tryz.ntmps70
  go_wp2
  go_ret
  exact⟨rfl,rfl⟩
theorem sSome(x lo:Int)(b:Bool)(w:World)(hb:Hid (b=true↔lo≤x∧x≤1000000000000000)):
  Calls Tryz.prog 30 #[.int .i64 x,.int .i64 lo] w fun e w'=>e= .returned (.bool b)∧w'=w:=by
 go_enter Tryz.func30,Tryz.ntmps30
 go_wp2_with fail
 refine(sIn x lo 1000000000000000 b _ hb).mono ?_
 rintro e w' ⟨rfl,rfl⟩
 go_wp2
 go_ret
 exact⟨rfl,rfl⟩
theorem sWeights(w:World)(g n cap:Nat)(xs:List Int)(ok:Bool)(hl:xs.length=n)(h20:n≤1048576)(h:At w g xs)(hok:Hid (ok=true↔Good xs)):
  Calls Tryz.prog 120 #[.slice (some ⟨g,0,none⟩) n cap] w fun e w'=>e= .returned (.bool ok)∧w'=w:=by
 by_cases nn:(1:Int)≤(n:Int)∧(n:Int)≤40
 ·have NN:=zh nn
  clear nn
  go_enter Tryz.func120,Tryz.ntmps120
  go_wp2_with fail
  refine(sIn n 1 40 true _ (zh ⟨fun _=>zu NN,fun _=>rfl⟩)).mono ?_
  rintro e w' ⟨rfl,rfl⟩
  go_wp2
  go_loop [3] (fun i=>∃(k:Nat),k≤n∧i= .int .i64 k∧Hid (∀i,i<k→Wt (xs.getD i 0))) (fun i=>n-(intOf i).toNat)
  case atStart=>exact⟨0,by omega,rfl,zh (fun i hi=>absurd hi (by omega))⟩
  case round=>
   obtain⟨k,hk,rfl,HG⟩:=hrel
   by_cases t:k<n
   ·have e1:=h k (by omega)
    clear h
    have K:=zh (show Wt (xs.getD k 0)→∀i,i<k+1→Wt (xs.getD i 0) from fun hw i hi=>by
     by_cases e:i=k
     ·subst e;exact hw
     ·exact zu HG i (by omega))
    have F:=zh (show ¬Wt (xs.getD k 0)→ok=false from fun hw=>by
     cases hh:ok
     ·rfl
     ·exact absurd (((zu hok).1 hh).2.1 k (by omega)) hw)
    clear hok
    generalize xs.getD k 0=z at *
    by_cases z0:Wt z
    ·have Z:=zh z0
     clear z0
     go_wp2_with fail
     refine(sSome z 0 true _ (zh ⟨fun _=>zu Z,fun _=>rfl⟩)).mono ?_
     rintro e w' ⟨rfl,rfl⟩
     go_wp2
     go_round
     case rel=>exact⟨k+1,by omega,by go_num,zh ((zu K) (zu Z))⟩
     case measure=>simp[intOf];omega
    ·have Z:=zh z0
     clear z0
     go_wp2_with fail
     refine(sSome z 0 false _ (zh ⟨fun h=>Bool.noConfusion h,fun h=>absurd h (zu Z)⟩)).mono ?_
     rintro e w' ⟨rfl,rfl⟩
     go_wp2
     go_ret
     exact⟨by rw[(zu F) (zu Z)];rfl,rfl⟩
   ·obtain rfl:k=n:=by omega
    have c:=sAll _ g k cap xs hl (by have:=zu NN;omega) (zu HG) h
    have F:=zh (show ok=true↔(1≤S xs k∧S xs k≤1000000000000000) from by
     rw[zu hok];unfold Good;rw[hl]
     have:=zu NN
     exact⟨fun hh=>hh.2.2,fun hh=>⟨⟨by omega,by omega⟩,zu HG,hh⟩⟩)
    clear h hok HG
    generalize S xs k=s at *
    go_wp2_with fail
    refine c.mono ?_
    rintro e w' ⟨rfl,rfl⟩
    go_wp2_with fail
    refine(sSome s 1 ok _ F).mono ?_
    rintro e w' ⟨rfl,rfl⟩
    go_wp2
    go_ret
    exact⟨rfl,rfl⟩
 ·have F:Hid (ok=false):=by
   refine zh ?_
   cases hh:ok
   ·rfl
   ·have:=((zu hok).1 hh).1;omega
  have NN:=zh nn
  clear nn
  clear h hok
  go_enter Tryz.func120,Tryz.ntmps120
  go_wp2_with fail
  refine(sIn n 1 40 false _ (zh ⟨fun h=>Bool.noConfusion h,fun h=>absurd h (zu NN)⟩)).mono ?_
  rintro e w' ⟨rfl,rfl⟩
  go_wp2
  go_ret
  exact⟨by rw[zu F];rfl,rfl⟩
def SumTells(xs:List Int)(s:Int)(ok:Bool):Prop:=(Good xs∧s=S xs xs.length∧ok=true)∨(¬Good xs∧s=0∧ok=false)
theorem SumTells.bad{xs:List Int}{s:Int}{ok:Bool}(h:SumTells xs s ok)(hb:¬Good xs):s=0∧ok=false:=by
 rcases h with h|h
 ·exact absurd h.1 hb
 ·exact h.2
theorem iSum(w:World)(g n cap:Nat)(xs:List Int)(s:Int)(ok:Bool)(hl:xs.length=n)(h20:n≤1048576)(h:At w g xs)(hok:Hid (SumTells xs s ok)):
  Calls Tryz.prog 197 #[.slice (some ⟨g,0,none⟩) n cap] w fun e w'=>e= .returned (.tuple #[.int .i64 s,.bool ok])∧w'=w:=by
 by_cases n2:(n:Int)≤40
 ·go_enter Tryz.func197,Tryz.ntmps197
  go_wp2
  go_loop [4,14] (fun s i=>∃(k:Nat),k≤n∧i= .int .i64 k∧s= .int .i64 (S xs k)∧S xs k≤1000000000000000∧Hid (∀i,i<k→Wt (xs.getD i 0))) (fun _ i=>n-(intOf i).toNat)
  case atStart=>exact⟨0,by omega,rfl,rfl,by simp[S],zh (fun i hi=>absurd hi (by omega))⟩
  case round=>
   obtain⟨k,hk,rfl,rfl,s1,HG⟩:=hrel
   have s0:=S_nonneg xs k (zu HG)
   by_cases t:k<n
   ·have e1:=h k (by omega)
    clear h
    have K:=zh (show Wt (xs.getD k 0)→∀i,i<k+1→Wt (xs.getD i 0) from fun hw i hi=>by
     by_cases e:i=k
     ·subst e;exact hw
     ·exact zu HG i (by omega))
    have F:=zh (show ¬Wt (xs.getD k 0)→s=0∧ok=false from fun hw=>(zu hok).bad fun hg=>hw (hg.2.1 k (by omega)))
    have F2:=zh (show ¬S xs k+xs.getD k 0≤1000000000000000→s=0∧ok=false from fun hw=>(zu hok).bad fun hg=>hw (by
     have:=S_mono xs (k+1) n (by omega) (fun i hi=>hg.2.1 i (by omega))
     have e:S xs (k+1)=S xs k+xs.getD k 0:=rfl
     have:=hg.2.2.2
     rw[hl] at this
     omega))
    have E:=zh (show S xs (k+1)=S xs k+xs.getD k 0 from rfl)
    clear hok
    generalize xs.getD k 0=z at *
    generalize S xs k=u at *
    by_cases z0:0≤z
    ·by_cases z1:z≤1000000000000000
     ·by_cases z2:u+z≤1000000000000000
      ·have c:=iAdd_yes u z w (by unfold Amt;omega) (by unfold Amt;omega) (by unfold Amt;omega)
       go_wp2_with (go_at_call 119;refine c.mono ?_;rintro e w' ⟨rfl,rfl⟩)
       go_round
       case rel=>exact⟨k+1,by omega,by go_num,by rw[zu E],by rw[zu E];omega,zh ((zu K) ⟨by omega,by omega⟩)⟩
       case measure=>simp[intOf];omega
      ·have c:=iAdd_no u z w (by unfold Bad Amt NoAmt;omega)
       go_wp2_with (go_at_call 119;refine c.mono ?_;rintro e w' ⟨rfl,rfl⟩)
       go_ret2
       obtain⟨a1,a2⟩:=(zu F2) (by omega)
       exact⟨by rw[a1,a2];rfl,rfl⟩
     ·have c:=iAdd_no u z w (by unfold Bad Amt NoAmt;omega)
      go_wp2_with (go_at_call 119;refine c.mono ?_;rintro e w' ⟨rfl,rfl⟩)
      go_ret2
      obtain⟨a1,a2⟩:=(zu F) (fun hw=>by have:=hw.1;have:=hw.2;omega)
      exact⟨by rw[a1,a2];rfl,rfl⟩
    ·by_cases z3: -1000000000000000≤z
     ·have c:=iAdd_yes u z w (by unfold Amt;omega) (by unfold Amt;omega) (by unfold Amt;omega)
      go_wp2_with (go_at_call 119;refine c.mono ?_;rintro e w' ⟨rfl,rfl⟩)
      go_ret2
      obtain⟨a1,a2⟩:=(zu F) (fun hw=>by have:=hw.1;have:=hw.2;omega)
      exact⟨by rw[a1,a2];rfl,rfl⟩
     ·have c:=iAdd_no u z w (by unfold Bad Amt NoAmt;omega)
      go_wp2_with (go_at_call 119;refine c.mono ?_;rintro e w' ⟨rfl,rfl⟩)
      go_ret2
      obtain⟨a1,a2⟩:=(zu F) (fun hw=>by have:=hw.1;have:=hw.2;omega)
      exact⟨by rw[a1,a2];rfl,rfl⟩
   ·obtain rfl:k=n:=by omega
    have F1:=zh (show 0<S xs k→s=S xs k∧ok=true from fun hp=>by
     have hg:Good xs:=by
      refine⟨⟨?_,by omega⟩,by rw[hl];exact zu HG,by rw[hl];omega,by rw[hl];exact s1⟩
      rw[hl]
      cases k with
      |zero=>exact absurd hp (by simp[S])
      |succ k=>omega
     rcases zu hok with q|q
     ·rw[hl] at q;exact q.2
     ·exact absurd hg q.1)
    have F2:=zh (show ¬0<S xs k→s=S xs k∧ok=false from fun hp=>by
     have hg:¬Good xs:=fun hg=>hp (by have:=hg.2.2.1;rw[hl] at this;omega)
     have q:=(zu hok).bad hg
     exact⟨by omega,q.2⟩)
    clear h hok HG
    generalize S xs k=u at *
    by_cases p:0<u
    ·go_wp2
     go_ret2
     obtain⟨a1,a2⟩:=(zu F1) (by omega)
     exact⟨by rw[a1,a2];rfl,rfl⟩
    ·go_wp2
     go_ret2
     obtain⟨a1,a2⟩:=(zu F2) (by omega)
     exact⟨by rw[a1,a2];rfl,rfl⟩
 ·have F:=zh ((zu hok).bad (fun hg=>by have:=hg.1.2;omega))
  clear h hok
  go_enter Tryz.func197,Tryz.ntmps197
  go_wp2
  go_ret2
  exact⟨by rw[(zu F).1,(zu F).2];rfl,rfl⟩
end Weigh
namespace Quota
open Ints Small Weigh MulC
def Q(t:Int)(xs:List Int)(i:Nat):Int:=t*xs.getD i 0/S xs xs.length
def R(t:Int)(xs:List Int)(i:Nat):Int:=t*xs.getD i 0%S xs xs.length
def Tot(t:Int):Prop:=0≤t∧t≤1000000000000000
theorem Q_le(t:Int)(xs:List Int)(i:Nat)(ht:Tot t)(hg:Weigh.Good xs)(hi:i<xs.length):0≤Q t xs i∧Q t xs i≤t:=by
 obtain⟨_,hw,hs,_⟩:=hg
 have h1:=S_one xs i xs.length hi hw
 have h0:=(hw i hi).1
 unfold Q
 generalize xs.getD i 0=x at *
 generalize S xs xs.length=s at *
 refine⟨Int.ediv_nonneg (Int.mul_nonneg ht.1 h0) (by omega),?_⟩
 have:t*x≤t*s:=Int.mul_le_mul_of_nonneg_left h1 ht.1
 have:=Int.ediv_le_ediv (by omega:0<s) this
 rwa [Int.mul_ediv_cancel _ (by omega)] at this
theorem R_lt(t:Int)(xs:List Int)(i:Nat)(hg:Weigh.Good xs):0≤R t xs i∧R t xs i<S xs xs.length:=by
 have:=hg.2.2.1
 exact⟨Int.emod_nonneg _ (by omega),Int.emod_lt_of_pos _ (by omega)⟩
theorem tells(t:Int)(xs:List Int)(i:Nat)(ht:Tot t)(hg:Weigh.Good xs)(hi:i<xs.length):Tells t (xs.getD i 0) (S xs xs.length) (Q t xs i) (R t xs i) true:=by
 refine Or.inl ⟨?_,rfl,rfl,rfl⟩
 have:=Q_le t xs i ht hg hi
 have:=ht.2
 show Q t xs i≤_
 omega
def QTells(t:Int)(xs:List Int)(i q r:Int)(ok:Bool):Prop:=
 (Weigh.Good xs∧Tot t∧(0≤i∧i<xs.length)∧q=Q t xs i.toNat∧r=R t xs i.toNat∧ok=true)∨(¬(Weigh.Good xs∧Tot t∧0≤i∧i<xs.length)∧q=0∧r=0∧ok=false)
theorem QTells.bad{t i q r:Int}{xs:List Int}{ok:Bool}(h:QTells t xs i q r ok)(hb:¬(Weigh.Good xs∧Tot t∧0≤i∧i<xs.length)):q=0∧r=0∧ok=false:=by
 rcases h with h|h
 ·exact absurd ⟨h.1,h.2.1,h.2.2.1⟩ hb
 ·exact h.2
theorem QTells.fine{t q r:Int}{i:Nat}{xs:List Int}{ok:Bool}(h:QTells t xs i q r ok)(hg:Weigh.Good xs)(ht:Tot t)(hi:i<xs.length):q=Q t xs i∧r=R t xs i∧ok=true:=by
 rcases h with h|h
 ·simpa using h.2.2.2
 ·exact absurd ⟨hg,ht,by omega,by omega⟩ h.1
theorem sQuota(w:World)(t i q r:Int)(ok:Bool)(g n cap:Nat)(xs:List Int)(hl:xs.length=n)(h20:n≤1048576)(h:At w g xs)(hq:Hid (QTells t xs i q r ok)):
  Calls Tryz.prog 121 #[.int .i64 t,.slice (some ⟨g,0,none⟩) n cap,.int .i64 i] w fun e w'=>e= .returned (.tuple #[.int .i64 q,.int .i64 r,.bool ok])∧∃m,w'=w.drewN m:=by
 by_cases hg:Weigh.Good xs
 ·have c1:=sWeights w g n cap xs true hl h20 h (zh ⟨fun _=>hg,fun _=>rfl⟩)
  have HG:=zh hg
  have n1:1≤n:=by have:=hg.1.1;omega
  have n40:n≤40:=by have:=hg.1.2;omega
  clear hg
  by_cases ht:Tot t
  ·have HT:=zh ht
   clear ht
   by_cases hi:0≤i∧i≤(n:Int) -1
   ·obtain⟨k,rfl⟩:=Int.eq_ofNat_of_zero_le hi.1
    have hk:(k:Int)<(n:Int):=by omega
    have e1:=h k (by omega)
    obtain⟨x0,x1⟩:=(zu HG).2.1 k (by omega)
    have s1:=(zu HG).2.2
    obtain⟨t0,t1⟩:=zu HT
    have F:=zh ((zu hq).fine (zu HG) (zu HT) (by omega))
    have c2:=fun W=>sMD t (xs.getD k 0) (S xs xs.length) (Q t xs k) (R t xs k) true W t0 t1 x0 x1 s1.1 s1.2 (zh (tells t xs k (zu HT) (zu HG) (by omega)))
    have c3:=fun m=>sAll (w.drewN m) g n cap xs hl n40 (fun i hi=>(zu HG).2.1 i (by omega)) h
    rw[hl] at c2 s1
    have HI:=zh hi
    clear hq h hi
    generalize xs.getD k 0=x at *
    generalize Q t xs k=qq at *
    generalize R t xs k=rr at *
    generalize S xs n=s at *
    go_enter Tryz.func121,Tryz.ntmps121
    go_wp2_with fail
    refine c1.mono ?_
    rintro e w' ⟨rfl,rfl⟩
    go_wp2_with fail
    refine(sSome t 0 true _ (zh ⟨fun _=>zu HT,fun _=>rfl⟩)).mono ?_
    rintro e w' ⟨rfl,rfl⟩
    go_wp2_with fail
    refine(sIn k 0 (n-1) true _ (zh ⟨fun _=>zu HI,fun _=>rfl⟩)).mono ?_
    rintro e w' ⟨rfl,rfl⟩
    go_wp2_with fail
    go_quiet (first|(go_at_call 160;exact Calls.quiet_of_same (c3 _))|(go_at_call 34;exact Calls.quiet_of_same (c2 _)))
    go_wp2
    go_ret3
    obtain⟨a1,a2,a3⟩:=zu F
    exact⟨by rw[a1,a2,a3];rfl,_,rfl⟩
   ·have F:=zh ((zu hq).bad (fun k=>hi ⟨k.2.2.1,by have:=k.2.2.2;omega⟩))
    have HI:=zh hi
    clear hi hq h
    go_enter Tryz.func121,Tryz.ntmps121
    go_wp2_with fail
    refine c1.mono ?_
    rintro e w' ⟨rfl,rfl⟩
    go_wp2_with fail
    refine(sSome t 0 true _ (zh ⟨fun _=>zu HT,fun _=>rfl⟩)).mono ?_
    rintro e w' ⟨rfl,rfl⟩
    go_wp2_with fail
    refine(sIn i 0 (n-1) false _ (zh ⟨fun h=>Bool.noConfusion h,fun h=>absurd h (zu HI)⟩)).mono ?_
    rintro e w' ⟨rfl,rfl⟩
    go_wp2
    go_ret3
    obtain⟨a1,a2,a3⟩:=zu F
    exact⟨by rw[a1,a2,a3];rfl,0,rfl⟩
  ·have F:=zh ((zu hq).bad (fun k=>ht k.2.1))
   have HT:=zh ht
   clear ht hq h
   go_enter Tryz.func121,Tryz.ntmps121
   go_wp2_with fail
   refine c1.mono ?_
   rintro e w' ⟨rfl,rfl⟩
   go_wp2_with fail
   refine(sSome t 0 false _ (zh ⟨fun h=>Bool.noConfusion h,fun h=>absurd h (zu HT)⟩)).mono ?_
   rintro e w' ⟨rfl,rfl⟩
   go_wp2
   go_ret3
   obtain⟨a1,a2,a3⟩:=zu F
   exact⟨by rw[a1,a2,a3];rfl,0,rfl⟩
 ·have F:=zh ((zu hq).bad (fun k=>hg k.1))
  have c1:=sWeights w g n cap xs false hl h20 h (zh ⟨fun k=>Bool.noConfusion k,fun k=>absurd k hg⟩)
  clear hg hq h
  go_enter Tryz.func121,Tryz.ntmps121
  go_wp2_with fail
  refine c1.mono ?_
  rintro e w' ⟨rfl,rfl⟩
  go_wp2
  go_ret3
  obtain⟨a1,a2,a3⟩:=zu F
  exact⟨by rw[a1,a2,a3];rfl,0,rfl⟩
end Quota
namespace Order
open Weigh Quota
def Ahead(t:Int)(xs:List Int)(a b:Nat):Prop:=R t xs b<R t xs a∨(R t xs a=R t xs b∧a<b)
theorem Ahead.asymm{t:Int}{xs:List Int}{a b:Nat}(h:Ahead t xs a b)(k:Ahead t xs b a):False:=by
 unfold Ahead at *;omega
theorem Ahead.total(t:Int)(xs:List Int)(a b:Nat)(h:a≠b):Ahead t xs a b∨Ahead t xs b a:=by
 unfold Ahead;omega
theorem Ahead.rest{t:Int}{xs:List Int}{a b:Nat}(h:Ahead t xs a b):R t xs b≤R t xs a:=by
 unfold Ahead at h;omega
def IsOrder(t:Int)(xs:List Int)(n:Nat)(L:List Nat):Prop:=L.Perm (List.range n)∧L.Pairwise (Ahead t xs)
theorem perm_unique(t:Int)(xs:List Int):∀(L M:List Nat),L.Perm M→L.Pairwise (Ahead t xs)→M.Pairwise (Ahead t xs)→L=M:=by
 intro L
 induction L with
 |nil=>intro M h _ _;exact(List.Perm.nil_eq h)
 |cons a L ih=>
  intro M h h1 h2
  cases M with
  |nil=>exact absurd h.length_eq (by simp)
  |cons b M=>
   have e:a=b:=by
    by_cases e:a=b
    ·exact e
    ·have m1:a∈b::M:=h.subset (List.mem_cons_self ..)
     have m2:b∈a::L:=h.symm.subset (List.mem_cons_self ..)
     have m1':a∈M:=by simpa[e] using m1
     have m2':b∈L:=by simpa[Ne.symm e] using m2
     exact(Ahead.asymm ((List.pairwise_cons.1 h1).1 b m2') ((List.pairwise_cons.1 h2).1 a m1')).elim
   subst e
   rw[ih M (List.Perm.cons_inv h) (List.pairwise_cons.1 h1).2 (List.pairwise_cons.1 h2).2]
theorem IsOrder.unique{t:Int}{xs:List Int}{n:Nat}{L M:List Nat}(h:IsOrder t xs n L)(k:IsOrder t xs n M):L=M:=
 perm_unique t xs L M (h.1.trans k.1.symm) h.2 k.2
theorem IsOrder.len{t:Int}{xs:List Int}{n:Nat}{L:List Nat}(h:IsOrder t xs n L):L.length=n:=by
 have:=h.1.length_eq;simpa using this
theorem IsOrder.lt{t:Int}{xs:List Int}{n:Nat}{L:List Nat}(h:IsOrder t xs n L)(a:Nat)(ha:a∈L):a<n:=by
 have:=h.1.subset ha;simpa using this
theorem IsOrder.getD_lt{t:Int}{xs:List Int}{n:Nat}{L:List Nat}(h:IsOrder t xs n L)(j:Nat)(hj:j<n):L.getD j 0<n:=by
 have hl:=h.len
 refine h.lt _ ?_
 rw[List.getD_eq_getElem?_getD,List.getElem?_eq_getElem (by omega)]
 exact List.getElem_mem _
theorem IsOrder.insert{t:Int}{xs:List Int}{n:Nat}{L:List Nat}(h:IsOrder t xs n L)(k:Nat)(hk:k≤n)
  (hd:∀j,k≤j→j<n→R t xs (L.getD j 0)<R t xs n)(ht:k=0∨R t xs n≤R t xs (L.getD (k-1) 0)):
  IsOrder t xs (n+1) (L.take k++n::L.drop k):=by
 have hl:=h.len
 constructor
 ·refine List.perm_middle.trans ?_
  rw[List.take_append_drop,List.range_succ]
  exact(List.Perm.cons n h.1).trans (List.perm_append_singleton n (List.range n)).symm
 ·have hp:=h.2
  rw[←List.take_append_drop k L,List.pairwise_append] at hp
  obtain⟨p1,p2,p3⟩:=hp
  rw[List.pairwise_append,List.pairwise_cons]
  refine⟨p1,⟨fun b hb=>?_,p2⟩,fun a ha b hb=>?_⟩
  ·obtain⟨j,hj,rfl⟩:=List.mem_iff_getElem.1 hb
   have hj':k+j<L.length:=by simpa[Nat.lt_sub_iff_add_lt'] using hj
   have:=hd (k+j) (by omega) (by omega)
   rw[List.getD_eq_getElem?_getD,List.getElem?_eq_getElem hj'] at this
   left
   simpa using this
  ·rcases List.mem_cons.1 hb with rfl|hb
   ·have ha':a∈L:=List.mem_of_mem_take ha
    have han:=h.lt a ha'
    rcases ht with rfl|ht
    ·simp at ha
    ·have hk0:0<k:=by
      cases k with
      |zero=>simp at ha
      |succ k=>omega
     obtain⟨j,hj,rfl⟩:=List.mem_iff_getElem.1 ha
     have hj':j<k:=by
      have:(L.take k).length≤k:=by simp;omega
      omega
     have hjl:j<L.length:=by omega
     have e:(L.take k)[j]=L[j]:=by simp
     have e2:L.getD (k-1) 0=L[k-1]'(by omega):=by rw[List.getD_eq_getElem?_getD,List.getElem?_eq_getElem (by omega)];rfl
     have hr:R t xs (L[k-1]'(by omega))≤R t xs L[j]:=by
      by_cases ej:j=k-1
      ·subst ej;exact Int.le_refl _
      ·exact Ahead.rest (List.pairwise_iff_getElem.1 h.2 j (k-1) hjl (by omega) (by omega))
     rw[e2] at ht
     rw[e] at han⊢
     unfold Ahead
     omega
   ·exact p3 a ha b hb
def cf(t:Int)(xs:List Int){n:Nat}(x y:Fin n):Int:=
 let c (u v:Int):Int:=if u<v then-1 else if v<u then 1 else 0
 if c (R t xs y.val) (R t xs x.val)=0 then c x.val y.val else c (R t xs y.val) (R t xs x.val)
theorem cf_neg(t:Int)(xs:List Int){n:Nat}(x y:Fin n):cf t xs x y<0↔Ahead t xs x.val y.val:=by
 unfold cf Ahead
 generalize R t xs y.val=u
 generalize R t xs x.val=v
 simp only
 repeat' split
 all_goals omega
def allOf(n:Nat):Array (Fin n):=Array.ofFn fun i=>i
theorem allOf_vals(n:Nat):(allOf n).toList.map Fin.val=List.range n:=by
 apply List.ext_getElem
 ·simp[allOf]
 ·intro i h1 h2
  simp[allOf]
theorem extract_all{α:Type}(d:Array α)(n:Nat)(h:d.size=n):d.extract 0 n=d:=by
 subst h
 exact Array.extract_size
theorem isOrder_of_sorted(t:Int)(xs:List Int)(m:Nat)(d:Array (Fin (m+1)))(hp:Go.Sort.PermIn 0 (allOf (m+1)).size (allOf (m+1)) d)
  (hs:Go.Sort.SortedIn (fun x y=>decide (cf t xs x y<0)) 0 (allOf (m+1)).size d):IsOrder t xs (m+1) (d.toList.map Fin.val):=by
 obtain⟨hsz,_,hperm⟩:=hp
 have hn:(allOf (m+1)).size=m+1:=by simp[allOf]
 rw[hn] at hsz hs hperm
 rw[extract_all d _ hsz,extract_all (allOf (m+1)) _ hn] at hperm
 have hp2:(d.toList.map Fin.val).Perm (List.range (m+1)):=by
  rw[←allOf_vals]
  exact hperm.map _
 refine⟨hp2,?_⟩
 have nd:(d.toList.map Fin.val).Nodup:=hp2.nodup_iff.2 List.nodup_range
 rw[List.pairwise_iff_getElem]
 intro i j hi hj hij
 have hi':i<d.size:=by simpa using hi
 have hj':j<d.size:=by simpa using hj
 have h:=hs i j (Nat.zero_le _) hij (by omega)
 rw[getElem!_pos d i hi',getElem!_pos d j hj'] at h
 have hne:d[i].val≠d[j].val:=by
  have:=List.pairwise_iff_getElem.1 nd i j hi hj hij
  simpa using this
 simp only[decide_eq_false_iff_not,cf_neg] at h
 simp only[List.getElem_map,Array.getElem_toList]
 rcases Ahead.total t xs _ _ hne with k|k
 ·exact k
 ·exact absurd k h
def ints(L:List Nat):List Int:=L.map fun(i:Nat)=>(i:Int)
theorem ints_len(L:List Nat):(ints L).length=L.length:=by simp[ints]
theorem ints_getD(L:List Nat)(j:Nat):(ints L).getD j 0=((L.getD j 0:Nat):Int):=by
 unfold ints
 rw[List.getD_eq_getElem?_getD,List.getD_eq_getElem?_getD,List.getElem?_map]
 cases L[j]?<;>rfl
def rests(t:Int)(xs:List Int)(k:Nat):List Int:=(List.range k).map (R t xs)
theorem rests_len(t:Int)(xs:List Int)(k:Nat):(rests t xs k).length=k:=by simp[rests]
theorem rests_getD(t:Int)(xs:List Int)(k j:Nat)(h:j<k):(rests t xs k).getD j 0=R t xs j:=by simp[rests,List.getD,h]
theorem rests_succ(t:Int)(xs:List Int)(k:Nat):rests t xs (k+1)=rests t xs k++[R t xs k]:=by simp[rests,List.range_succ]
def OTells(t:Int)(xs:List Int)(L:List Nat):Prop:=(Weigh.Good xs∧Tot t∧IsOrder t xs xs.length L)∨(¬(Weigh.Good xs∧Tot t)∧L=[])
theorem OTells.len_le{t:Int}{xs:List Int}{L:List Nat}(h:OTells t xs L):L.length≤xs.length:=by
 rcases h with h|h
 ·exact Nat.le_of_eq h.2.2.len
 ·rw[h.2];exact Nat.zero_le _
theorem OTells.unique{t:Int}{xs:List Int}{L M:List Nat}(h:OTells t xs L)(k:OTells t xs M):L=M:=by
 rcases h with h|h
 ·rcases k with k|k
  ·exact h.2.2.unique k.2.2
  ·exact absurd ⟨h.1,h.2.1⟩ k.1
 ·rcases k with k|k
  ·exact absurd ⟨k.1,k.2.1⟩ h.1
  ·rw[h.2,k.2]
end Order
namespace Parts
open Weigh Quota Order
def SQ(t:Int)(xs:List Int):Nat→Int
 |0=>0
 |k+1=>SQ t xs k+Q t xs k
def SR(t:Int)(xs:List Int):Nat→Int
 |0=>0
 |k+1=>SR t xs k+R t xs k
theorem split(t:Int)(xs:List Int)(k:Nat):t*S xs k=S xs xs.length*SQ t xs k+SR t xs k:=by
 induction k with
 |zero=>simp[S,SQ,SR]
 |succ k ih=>
  have e:t*xs.getD k 0=S xs xs.length*Q t xs k+R t xs k:=(Int.mul_ediv_add_emod _ _).symm
  show t*(S xs k+xs.getD k 0)=S xs xs.length*(SQ t xs k+Q t xs k)+(SR t xs k+R t xs k)
  rw[Int.mul_add,Int.mul_add,ih,e]
  generalize S xs xs.length*SQ t xs k=a
  generalize S xs xs.length*Q t xs k=b
  omega
theorem SR_bd(t:Int)(xs:List Int)(hg:Weigh.Good xs)(k:Nat):0≤SR t xs k∧SR t xs k≤(k:Int)*(S xs xs.length-1):=by
 induction k with
 |zero=>simp[SR]
 |succ k ih=>
  have:=R_lt t xs k hg
  have e:((k+1:Nat):Int)*(S xs xs.length-1)=(k:Int)*(S xs xs.length-1)+(S xs xs.length-1):=by
   rw[Int.natCast_succ,Int.add_mul,Int.one_mul]
  show 0≤SR t xs k+R t xs k∧SR t xs k+R t xs k≤_
  rw[e]
  generalize (k:Int)*(S xs xs.length-1)=a at *
  omega
theorem SQ_mono(t:Int)(xs:List Int)(ht:Tot t)(hg:Weigh.Good xs)(k n:Nat)(hk:k≤n)(hn:n≤xs.length):SQ t xs k≤SQ t xs n:=by
 induction n with
 |zero=>
  obtain rfl:k=0:=by omega
  exact Int.le_refl _
 |succ n ih=>
  by_cases e:k=n+1
  ·subst e;exact Int.le_refl _
  ·have:=ih (by omega) (by omega)
   have:=(Q_le t xs n ht hg (by omega)).1
   show _≤SQ t xs n+Q t xs n
   omega
theorem missing(t:Int)(xs:List Int)(ht:Tot t)(hg:Weigh.Good xs):S xs xs.length*(t-SQ t xs xs.length)=SR t xs xs.length∧0≤t-SQ t xs xs.length∧t-SQ t xs xs.length<xs.length:=by
 have h:=split t xs xs.length
 obtain⟨r0,r1⟩:=SR_bd t xs hg xs.length
 have s0:=hg.2.2.1
 have n0:=hg.1.1
 have e:S xs xs.length*(t-SQ t xs xs.length)=SR t xs xs.length:=by
  rw[Int.mul_sub,Int.mul_comm _ t,h]
  generalize S xs xs.length*SQ t xs xs.length=a
  omega
 generalize hs:S xs xs.length=s at *
 generalize hm:t-SQ t xs xs.length=m at *
 refine⟨e,?_,?_⟩
 ·apply Int.le_of_lt_add_one
  by_cases z:0≤m
  ·omega
  ·have:s*m≤s*(-1):=Int.mul_le_mul_of_nonneg_left (by omega) (by omega)
   rw[Int.mul_neg_one] at this
   omega
 ·by_cases z:m<(xs.length:Int)
  ·exact z
  ·have h1:s*(xs.length:Int)≤s*m:=Int.mul_le_mul_of_nonneg_left (by omega) (by omega)
   have h2:(xs.length:Int)*(s-1)=s*(xs.length:Int) -(xs.length:Int):=by rw[Int.mul_sub,Int.mul_one,Int.mul_comm]
   omega
theorem missing_nat(t:Int)(xs:List Int)(ht:Tot t)(hg:Weigh.Good xs):∃M:Nat,t-SQ t xs xs.length=(M:Int)∧M<xs.length:=by
 obtain⟨_,h1,h2⟩:=missing t xs ht hg
 obtain⟨M,hM⟩:=Int.eq_ofNat_of_zero_le h1
 exact⟨M,hM,by omega⟩
def wholes(t:Int)(xs:List Int)(k:Nat):List Int:=(List.range k).map (Q t xs)
theorem wholes_len(t:Int)(xs:List Int)(k:Nat):(wholes t xs k).length=k:=by simp[wholes]
theorem wholes_getD(t:Int)(xs:List Int)(k j:Nat)(h:j<k):(wholes t xs k).getD j 0=Q t xs j:=by simp[wholes,List.getD,h]
theorem wholes_succ(t:Int)(xs:List Int)(k:Nat):wholes t xs (k+1)=wholes t xs k++[Q t xs k]:=by simp[wholes,List.range_succ]
def bump(qs:List Int)(L:List Nat):Nat→List Int
 |0=>qs
 |m+1=>(bump qs L m).set (L.getD m 0) ((bump qs L m).getD (L.getD m 0) 0+1)
theorem bump_len(qs:List Int)(L:List Nat)(m:Nat):(bump qs L m).length=qs.length:=by
 induction m with
 |zero=>rfl
 |succ m ih=>simp[bump,ih]
theorem getD_set(qs:List Int)(i j:Nat)(x:Int)(h:i<qs.length):(qs.set i x).getD j 0=if i=j then x else qs.getD j 0:=by
 simp only[List.getD_eq_getElem?_getD,List.getElem?_set]
 by_cases e:i=j
 ·subst e;simp[h]
 ·simp[e]
theorem getD_set_le(qs:List Int)(i j:Nat)(x:Int):(qs.set i x).getD j 0=if i=j∧i<qs.length then x else qs.getD j 0:=by
 by_cases h:i<qs.length
 ·rw[getD_set qs i j x h];simp[h]
 ·rw[List.set_eq_of_length_le (by omega)];simp[h]
theorem bump_bd(qs:List Int)(L:List Nat)(t:Int)(ht:0≤t)(h:∀j,0≤qs.getD j 0∧qs.getD j 0≤t)(m:Nat):∀j,0≤(bump qs L m).getD j 0∧(bump qs L m).getD j 0≤t+(m:Int):=by
 induction m with
 |zero=>intro j;have:=h j;simp only[bump];omega
 |succ m ih=>
  intro j
  rw[bump,getD_set_le]
  have h1:=ih (L.getD m 0)
  have h2:=ih j
  split<;>omega
theorem wholes_bd(t:Int)(xs:List Int)(ht:Tot t)(hg:Weigh.Good xs)(j:Nat):0≤(wholes t xs xs.length).getD j 0∧(wholes t xs xs.length).getD j 0≤t:=by
 by_cases h:j<xs.length
 ·rw[wholes_getD t xs _ j h]
  exact Q_le t xs j ht hg h
 ·have e:(wholes t xs xs.length).getD j 0=0:=by
   rw[List.getD_eq_getElem?_getD,List.getElem?_eq_none (by rw[wholes_len];omega)];rfl
  rw[e]
  exact⟨Int.le_refl _,ht.1⟩
def STells(t:Int)(xs:List Int)(ps:List Int)(ok:Bool):Prop:=
 (Weigh.Good xs∧Tot t∧ok=true∧∃L,∃M:Nat,IsOrder t xs xs.length L∧t-SQ t xs xs.length=(M:Int)∧M<xs.length∧ps=bump (wholes t xs xs.length) L M)∨(¬(Weigh.Good xs∧Tot t)∧ok=false∧ps=[])
theorem STells.unique{t:Int}{xs ps ps':List Int}{ok ok':Bool}(h:STells t xs ps ok)(k:STells t xs ps' ok'):ps=ps'∧ok=ok':=by
 rcases h with⟨h1,h2,h3,L,M,h4,h5,_,h6⟩|h
 ·rcases k with⟨_,_,k3,L',M',k4,k5,_,k6⟩|k
  ·obtain rfl:=h4.unique k4
   obtain rfl:M=M':=by omega
   exact⟨h6.trans k6.symm,h3.trans k3.symm⟩
  ·exact absurd ⟨h1,h2⟩ k.1
 ·rcases k with⟨k1,k2,_⟩|k
  ·exact absurd ⟨k1,k2⟩ h.1
  ·exact⟨h.2.2.trans k.2.2.symm,h.2.1.trans k.2.1.symm⟩
theorem STells.len_le{t:Int}{xs ps:List Int}{ok:Bool}(h:STells t xs ps ok):ps.length≤xs.length:=by
 rcases h with⟨_,_,_,L,M,_,_,_,rfl⟩|h
 ·rw[bump_len,wholes_len];exact Nat.le_refl _
 ·rw[h.2.2];exact Nat.zero_le _
end Parts
namespace Trd
open Bks Tup8
open Bals (T3)
open Lots (NoOk)
def IsAt(ps:List T8)(no:Int)(k:Nat):Prop:=k<ps.length∧(el8 ps k).1=no∧∀j,j<k→(el8 ps j).1≠no
def NoneAt(ps:List T8)(no:Int):Prop:=∀j,j<ps.length→(el8 ps j).1≠no
theorem IsAt.same{ps:List T8}{no:Int}{k l:Nat}(h:IsAt ps no k)(g:IsAt ps no l):k=l:=by
 rcases Nat.lt_trichotomy k l with a|a|a
 ·exact absurd h.2.1 (g.2.2 k a)
 ·exact a
 ·exact absurd g.2.1 (h.2.2 l a)
theorem IsAt.not{ps:List T8}{no:Int}{k:Nat}(h:IsAt ps no k)(g:NoneAt ps no):False:=g k h.1 h.2.1
def insT(t:T8):List T8→List T8
 |[]=>[t]
 |p::r=>if t.1<p.1 then t::p::r else p::insT t r
def inState(p:T8)(s:Int):T8:=(p.1,p.2.1,p.2.2.1,p.2.2.2.1,p.2.2.2.2.1,p.2.2.2.2.2.1,p.2.2.2.2.2.2.1,s)
def setState(ps:List T8)(k:Nat)(s:Int):List T8:=ps.modify k (fun p=>inState p s)
def NoneT(b:Bk)(x y p m:Int):Prop:=kindOf b.ac x=0∨kindOf b.ac y=0∨kindOf b.ic p=0∨kindOf b.ic m=0
def KindT(b:Bk)(x y p m:Int):Prop:=kindOf b.ac x≠1∨kindOf b.ac y≠1∨x=y∨kindOf b.ic p≠2∨kindOf b.ic m≠1
def IsTrade(b:Bk)(no x y p q m pr:Int)(b':Bk)(c:Int):Prop:=
 ((∃k,IsAt b.ts no k)∧b'=b∧c=2)∨
 (NoneAt b.ts no∧NoneT b x y p m∧b'=b∧c=3)∨
 (NoneAt b.ts no∧¬NoneT b x y p m∧KindT b x y p m∧b'=b∧c=4)∨
 (NoneAt b.ts no∧¬NoneT b x y p m∧¬KindT b x y p m∧b.ts.length=30∧b'=b∧c=7)∨
 (NoneAt b.ts no∧¬NoneT b x y p m∧¬KindT b x y p m∧b.ts.length≠30∧b'={b with ts:=insT (no,x,y,p,q,m,pr,1) b.ts}∧c=0)
theorem IsTrade.same{b b1 b2:Bk}{no x y p q m pr c1 c2:Int}(h:IsTrade b no x y p q m pr b1 c1)(k:IsTrade b no x y p q m pr b2 c2):b1=b2∧c1=c2:=by
 rcases h with⟨⟨l,h⟩,rfl,rfl⟩|⟨h,h2,rfl,rfl⟩|⟨h,h2,h3,rfl,rfl⟩|⟨h,h2,h3,h4,rfl,rfl⟩|⟨h,h2,h3,h4,rfl,rfl⟩<;>
  rcases k with⟨⟨m,k⟩,rfl,rfl⟩|⟨k,k2,rfl,rfl⟩|⟨k,k2,k3,rfl,rfl⟩|⟨k,k2,k3,k4,rfl,rfl⟩|⟨k,k2,k3,k4,rfl,rfl⟩<;>
  first|exact⟨rfl,rfl⟩|exact(h.not k).elim|exact(k.not h).elim|exact absurd h2 k2|exact absurd k2 h2|exact absurd h3 k3|exact absurd k3 h3|exact absurd h4 k4|exact absurd k4 h4
def IsCancel(b:Bk)(no:Int)(b':Bk)(c:Int):Prop:=
 (NoneAt b.ts no∧b'=b∧c=3)∨
 (∃k,IsAt b.ts no k∧(((el8 b.ts k).2.2.2.2.2.2.2≠1∧b'=b∧c=6)∨((el8 b.ts k).2.2.2.2.2.2.2=1∧b'={b with ts:=setState b.ts k 3}∧c=0)))
theorem IsCancel.same{b b1 b2:Bk}{no c1 c2:Int}(h:IsCancel b no b1 c1)(k:IsCancel b no b2 c2):b1=b2∧c1=c2:=by
 rcases h with⟨h,rfl,rfl⟩|⟨l,h,h'⟩<;>rcases k with⟨k,rfl,rfl⟩|⟨m,k,k'⟩
 ·exact⟨rfl,rfl⟩
 ·exact(k.not h).elim
 ·exact(h.not k).elim
 ·obtain rfl:=h.same k
  rcases h' with⟨h1,rfl,rfl⟩|⟨h1,rfl,rfl⟩<;>rcases k' with⟨k1,rfl,rfl⟩|⟨k1,rfl,rfl⟩<;>first|exact⟨rfl,rfl⟩|exact absurd k1 h1|exact absurd h1 k1
def legsT(t:T8):List T3:=pairL t.2.1 t.2.2.1 t.2.2.2.2.2.1 t.2.2.2.2.2.2.1++pairL t.2.2.1 t.2.1 t.2.2.2.1 t.2.2.2.2.1
def IsSettle(b:Bk)(no way:Int)(b':Bk)(gain c:Int):Prop:=
 (NoneAt b.ts no∧b'=b∧gain=0∧c=3)∨
 (∃k,IsAt b.ts no k∧(((el8 b.ts k).2.2.2.2.2.2.2≠1∧b'=b∧gain=0∧c=6)∨
  ((el8 b.ts k).2.2.2.2.2.2.2=1∧∃b1 c1,IsPosted b (legsT (el8 b.ts k)) b1 c1∧((c1≠0∧b'=b∧gain=0∧c=c1)∨
   (c1=0∧∃b2 k2 c2,IsTake b1 (el8 b.ts k).2.2.1 (el8 b.ts k).2.2.2.1 (el8 b.ts k).2.2.2.2.1 way b2 k2 c2∧((c2≠0∧b'=b∧gain=0∧c=c2)∨
    (c2=0∧∃b3 c3,IsOpen b2 (el8 b.ts k).2.1 (el8 b.ts k).2.2.2.1 (el8 b.ts k).2.2.2.2.1 (el8 b.ts k).2.2.2.2.2.2.1 b3 c3∧((c3≠0∧b'=b∧gain=0∧c=c3)∨
     (c3=0∧b'={b3 with ts:=setState b3.ts k 2}∧gain=IntKind.i64.wrap ((el8 b.ts k).2.2.2.2.2.2.1-k2)∧c=0)))))))))
theorem IsSettle.same{b b1 b2:Bk}{no way g1 g2 c1 c2:Int}(h:IsSettle b no way b1 g1 c1)(k:IsSettle b no way b2 g2 c2):b1=b2∧g1=g2∧c1=c2:=by
 rcases h with⟨h,rfl,rfl,rfl⟩|⟨l,h,h'⟩<;>rcases k with⟨k,rfl,rfl,rfl⟩|⟨m,k,k'⟩
 ·exact⟨rfl,rfl,rfl⟩
 ·exact(k.not h).elim
 ·exact(h.not k).elim
 ·obtain rfl:=h.same k
  rcases h' with⟨h1,rfl,rfl,rfl⟩|⟨h1,d1,e1,hp,h'⟩<;>rcases k' with⟨k1,rfl,rfl,rfl⟩|⟨k1,d2,e2,kp,k'⟩
  ·exact⟨rfl,rfl,rfl⟩
  ·exact absurd k1 h1
  ·exact absurd h1 k1
  ·obtain⟨rfl,rfl⟩:=hp.same kp
   rcases h' with⟨h2,rfl,rfl,rfl⟩|⟨h2,f1,t1,u1,ht,h'⟩<;>rcases k' with⟨k2,rfl,rfl,rfl⟩|⟨k2,f2,t2,u2,kt,k'⟩
   ·exact⟨rfl,rfl,rfl⟩
   ·exact absurd k2 h2
   ·exact absurd h2 k2
   ·obtain⟨rfl,rfl,rfl⟩:=ht.same kt
    rcases h' with⟨h3,rfl,rfl,rfl⟩|⟨h3,p1,q1,ho,h'⟩<;>rcases k' with⟨k3,rfl,rfl,rfl⟩|⟨k3,p2,q2,ko,k'⟩
    ·exact⟨rfl,rfl,rfl⟩
    ·exact absurd k3 h3
    ·exact absurd h3 k3
    ·obtain⟨rfl,rfl⟩:=ho.same ko
     rcases h' with⟨h4,rfl,rfl,rfl⟩|⟨h4,rfl,rfl,rfl⟩<;>rcases k' with⟨k4,rfl,rfl,rfl⟩|⟨k4,rfl,rfl,rfl⟩<;>first|exact⟨rfl,rfl,rfl⟩|exact absurd k4 h4|exact absurd h4 k4
def ToldT(b:Bk)(no:Int)(p:T8)(ok:Bool):Prop:=(ok=true∧Ok b∧∃k,IsAt b.ts no k∧p=el8 b.ts k)∨(ok=false∧(¬Ok b∨NoneAt b.ts no)∧p=(0,0,0,0,0,0,0,0))
theorem ToldT.same{b:Bk}{no:Int}{p q:T8}{s t:Bool}(h:ToldT b no p s)(k:ToldT b no q t):p=q∧s=t:=by
 rcases h with⟨rfl,h1,l,h2,rfl⟩|⟨rfl,h1,rfl⟩<;>rcases k with⟨rfl,k1,m,k2,rfl⟩|⟨rfl,k1,rfl⟩
 ·rw[h2.same k2];exact⟨rfl,rfl⟩
 ·rcases k1 with k1|k1
  ·exact absurd h1 k1
  ·exact(h2.not k1).elim
 ·rcases h1 with h1|h1
  ·exact absurd k1 h1
  ·exact(k2.not h1).elim
 ·exact⟨rfl,rfl⟩
end Trd
namespace Scale
open Tup5 Lots Takes
def withQ(p:T5)(s:Int):T5:=(p.1,p.2.1,p.2.2.1,s,p.2.2.2.2)
def keptN(own:List T5)(ss:List Int):Nat→List T5
 |0=>[]
 |k+1=>keptN own ss k++(if ss.getD k 0=0 then[] else[withQ (el5 own k) (ss.getD k 0)])
def lostN(own:List T5)(ss:List Int):Nat→Int
 |0=>0
 |k+1=>lostN own ss k+(if ss.getD k 0=0 then(el5 own k).2.2.2.2 else 0)
def addFirst:List T5→Int→List T5
 |[],_=>[]
 |p::r,c=>(p.1,p.2.1,p.2.2.1,p.2.2.2.1,p.2.2.2.2+c)::r
def scaleL(own:List T5)(ss:List Int):List T5:=addFirst (keptN own ss own.length) (lostN own ss own.length)
theorem kept_len(own:List T5)(ss:List Int):∀k,(keptN own ss k).length≤k
 |0=>Nat.le_refl _
 |k+1=>by
  have:=kept_len own ss k
  unfold keptN
  rw[List.length_append]
  split<;>simp<;>omega
theorem add_len(l:List T5)(c:Int):(addFirst l c).length=l.length:=by cases l<;>rfl
theorem scale_len(own:List T5)(ss:List Int):(scaleL own ss).length≤own.length:=by
 unfold scaleL
 rw[add_len]
 exact kept_len _ _ _
theorem kept_key{a i:Int}{own:List T5}(h:∀p∈own,p.1=a∧p.2.1=i)(ss:List Int):∀k,k≤own.length→∀p∈keptN own ss k,p.1=a∧p.2.1=i
 |0,_,p,hp=>absurd hp List.not_mem_nil
 |k+1,hk,p,hp=>by
  unfold keptN at hp
  rcases List.mem_append.1 hp with hp|hp
  ·exact kept_key h ss k (by omega) p hp
  ·split at hp
   ·exact absurd hp List.not_mem_nil
   ·rw[List.mem_singleton] at hp
    subst hp
    exact h (el5 own k) (getD_mem (by omega))
theorem add_key{a i:Int}{l:List T5}(h:∀p∈l,p.1=a∧p.2.1=i)(c:Int):∀p∈addFirst l c,p.1=a∧p.2.1=i:=by
 cases l with
 |nil=>exact fun p hp=>absurd hp List.not_mem_nil
 |cons x r=>
  intro p hp
  rcases List.mem_cons.1 hp with rfl|hp
  ·exact h x List.mem_cons_self
  ·exact h p (List.mem_cons_of_mem _ hp)
theorem scale_key{a i:Int}{own:List T5}(h:∀p∈own,p.1=a∧p.2.1=i)(ss:List Int):∀p∈scaleL own ss,p.1=a∧p.2.1=i:=add_key (kept_key h ss own.length (Nat.le_refl _)) _
theorem lost_bd{own:List T5}(h:∀p∈own,Pos p)(ss:List Int):∀k,k≤own.length→0≤lostN own ss k∧lostN own ss k+sumC (keptN own ss k)=sumC (own.take k)
 |0,_=>by simp[lostN,keptN,sumC]
 |k+1,hk=>by
  obtain⟨h1,h2⟩:=lost_bd h ss k (by omega)
  have hp:=h _ (getD_mem (ps:=own) (i:=k) (by omega))
  unfold Pos at hp
  rw[sumC_next (by omega)]
  unfold lostN keptN
  rw[sumC_append]
  by_cases e:ss.getD k 0=0
  ·rw[if_pos e,if_pos e]
   simp only[sumC]
   omega
  ·rw[if_neg e,if_neg e]
   simp only[sumC,withQ]
   omega
end Scale
namespace SOrder
open Ints Weigh Quota Order
theorem own_of_row{w:World}{base n:Nat}{v:Value}{vs:List Value}{xs:List Int}(h:w.ownsRow base 3 1 v n vs)(e:vs=xs.map (Value.int .i64))(hv:¬v= .slice none 0 0):
  ∃g c,v= .slice (some ⟨g,0,none⟩) n c∧Own w base g n c xs:=by
 subst e
 have h':=h
 rcases h.2 with⟨h1,_⟩|⟨g,c,cur,rfl,_⟩
 ·exact absurd h1 hv
 ·exact⟨g,c,rfl,h'⟩
theorem own_of_row'{w:World}{base n n':Nat}{v:Value}{vs:List Value}{xs:List Int}(h:w.ownsRow base 3 1 v n vs)(hn:n=n')(e:vs=xs.map (Value.int .i64))(hv:¬v= .slice none 0 0):
  ∃g c,v= .slice (some ⟨g,0,none⟩) n' c∧Own w base g n' c xs:=by
 subst hn
 exact own_of_row h e hv
theorem Own.alloc{w:World}{base g n cap:Nat}{xs:List Int}(h:Own w base g n cap xs)(o:Obj):Own (w.alloc o) base g n cap xs:=World.ownsRow.alloc h o
theorem lit0(w:World)(base:Nat)(hb:base≤w.heap.size):Own (w.alloc (.cells #[] 3)) base w.heap.size 0 0 []:=World.ownsRow_lit w #[] 0 hb (by decide) rfl
theorem one_cell(w:World)(x:Int):∀(j:Nat) (u:Value),[Value.int .i64 x][j]?=some u→(w.alloc (.cells #[Value.int .i64 x] 3)).cell? ((⟨w.heap.size,0,none⟩:Addr).add j)=some u:=by
 intro j u hj
 match j,hj with
 |0,hj=>simp at hj;subst hj;simp[Addr.add]
theorem one_one(x:Int):∀u∈[Value.int .i64 x],u.oneCell'=true:=by
 intro u hu;simp at hu;subst hu;rfl
theorem part_cells{w:World}{base g n cap:Nat}{xs:List Int}(h:Own w base g n cap xs)(i m:Nat)(ad:Addr)(had:m=0∨ad=⟨g,i,none⟩)(hm:i+m≤n):
  ∀(j:Nat) (u:Value),(((xs.drop i).take m).map (Value.int .i64))[j]?=some u→w.cell? (ad.add j)=some u:=by
 intro j u hu
 have hj:j<m:=by
  have:=(List.getElem?_eq_some_iff.1 hu).1
  simp at this
  omega
 rcases had with rfl|rfl
 ·omega
 have hl:=h.len
 rw[Addr.add_lit]
 rw[h.at (i+j) (by omega)]
 rw[←hu,List.getElem?_map,List.getElem?_take,if_pos hj,List.getElem?_drop,List.getElem?_eq_getElem (by omega)]
 simp[List.getD,show i+j<xs.length by omega]
theorem ints_split(L:List Nat)(j k:Nat):ints (L.take j++k::L.drop j)=(ints L).take j++[(k:Int)]++(ints L).drop j:=by
 simp[ints]
theorem sOrder_good(w:World)(t:Int)(g n cap:Nat)(xs:List Int)(hl:xs.length=n)(hg:g<w.heap.size)(h:At w g xs)(good:Weigh.Good xs)(ht:Tot t):
  Calls Tryz.prog 122 #[.int .i64 t,.slice (some ⟨g,0,none⟩) n cap] w fun e w'=>∃L g' c,IsOrder t xs n L∧e= .returned (.slice (some ⟨g',0,none⟩) n c)∧Own w' w.heap.size g' n c (ints L)∧Below w.heap.size w w':=by
 have n40:n≤40:=by have:=good.1.2;omega
 have GT:=zh (And.intro good ht)
 have H:=zh h
 have HG:=zh hg
 obtain⟨i0,hi,hz0,hz1,hz2⟩:=info_parts info3
 clear good ht h hg
 go_enter Tryz.func122,Tryz.ntmps122
 go_wp2_with fail
 refine(sWeights _ g n cap xs true hl (by omega) ((zu H).below (Below.alloc (Below.refl _ _) (Nat.le_refl _) _) (zu HG)) (zh ⟨fun _=>(zu GT).1,fun _=>rfl⟩)).mono ?_
 rintro e w1 ⟨rfl,hw1⟩
 go_wp2_with fail
 refine(sSome t 0 true _ (zh ⟨fun _=>(zu GT).2,fun _=>rfl⟩)).mono ?_
 rintro e w2 ⟨rfl,hw2⟩
 subst hw2
 subst hw1
 go_wp2_with fail
 go_loopw [5,6,7] (fun o l i wr=>∃(k:Nat) (L:List Nat) (gO cO gL cL:Nat),k≤n∧i= .int .i64 k∧o= .slice (some ⟨gO,0,none⟩) k cO∧l= .slice (some ⟨gL,0,none⟩) k cL∧
   gO≠gL∧Own wr w.heap.size gO k cO (ints L)∧Own wr w.heap.size gL k cL (rests t xs k)∧IsOrder t xs k L∧Below w.heap.size w wr) (fun _ _ i _=>n-(intOf i).toNat)
 case atStart=>
  have a1:=lit0 w w.heap.size (Nat.le_refl _)
  have a2:Own ((w.alloc (.cells #[] 3)).alloc (.cells #[] 3)) w.heap.size (w.heap.size+1) 0 0 (rests t xs 0):=by
   have:=lit0 (w.alloc (.cells #[] 3)) w.heap.size (by simp)
   rwa [World.size_alloc] at this
  refine⟨0,[],_,_,_,_,by omega,rfl,rfl,rfl,?_,Own.alloc a1 _,a2,⟨List.Perm.refl _,List.Pairwise.nil⟩,?_⟩
  ·simp
  ·exact((Below.refl _ _).alloc (Nat.le_refl _) _).alloc (by simp) _
 case round=>
  obtain⟨k,L,gO,cO,gL,cL,hk,rfl,rfl,rfl,hne,ownO,ownL,ord,hb⟩:=hrel
  by_cases lt:k<n
  ·have c1:=sQuota wr t k (Q t xs k) (R t xs k) true g n cap xs hl (by omega) ((zu H).below hb (zu HG)) (zh (Or.inl ⟨(zu GT).1,(zu GT).2,⟨by omega,by omega⟩,by simp,by simp,rfl⟩))
   go_wp2_with fail
   refine c1.mono ?_
   rintro e w1 ⟨rfl,m,rfl⟩
   have ownO1:Own (wr.drewN m) w.heap.size gO k cO (ints L):=ownO
   have ownL1:Own (wr.drewN m) w.heap.size gL k cL (rests t xs k):=ownL
   have hb1:Below w.heap.size w (wr.drewN m):=below_drewN hb m
   clear ownO ownL hb c1
   generalize wr.drewN m=w1 at *
   have hs1:=hb1.size
   go_wp2_with (at_builtin;refine wpList_append_own _ rfl (.tmp 38) (.tmp 40) 43 rfl w.heap.size 3 i0 (.int .i64 0) 1 8 Tryz.underlying43 hi hz0 hz1 hz2 rfl (by decide) (.slice (some ⟨gL,0,none⟩) k cL) k _ rfl (Own.alloc ownL1 _) ⟨w1.heap.size,0,none⟩ 1 1 [.int .i64 (R t xs k)] rfl rfl (one_cell w1 _) (one_one _) (by unfold maxLen;omega) (by omega) (by simp;omega) ?_;intro v2 w2 own2 (gr2:World.grownBy _ w2 (some gL)) nil2)
   obtain⟨gL2,cL2,rfl,ownL2⟩:=own_of_row (xs:=rests t xs (k+1)) own2 (by rw[rests_succ];simp) (by rw[nil2];simp)
   have ownO2:=Own.kept (Own.alloc ownO1 (.cells #[Value.int .i64 (R t xs k)] 3)) gr2 (by simpa using hne)
   have hb2:Below w.heap.size w w2:=(hb1.alloc hs1 _).grown gr2 (by simp;omega) (by simpa using ownL1.lt.1)
   have hs2:=hb2.size
   have lO:=ownO2.lt
   have lL:=ownL2.lt
   have lenL:=ord.len
   have cO0:k≤cO:=by
    rcases ownO2.2 with⟨z,_⟩|⟨_,c',_,z,_,_,z2,_⟩
    ·simp at z
    ·simp at z;omega
   clear own2 gr2 nil2 ownO1 ownL1 hb1
   go_loop [11] (fun j=>∃p:Nat,p≤k∧j= .int .i64 p∧Hid (∀i,p≤i→i<k→R t xs (L.getD i 0)<R t xs k)) (fun j=>(intOf j).toNat)
   case atStart=>exact⟨k,by omega,rfl,zh (fun i h1 h2=>by omega)⟩
   case round=>
    obtain⟨p,hp,rfl,HD⟩:=hrel
    cases p with
    |zero=>
     by_cases hc:cO=0
     ·obtain rfl:k=0:=by omega
      subst hc
      go_wp2_with (at_builtin;refine wpList_append_own _ rfl (.tmp 60) (.tmp 63) 43 rfl w2.heap.size 3 i0 (.int .i64 0) 1 8 Tryz.underlying43 hi hz0 hz1 hz2 rfl (by decide) (.slice (some ⟨w2.heap.size,0,none⟩) 0 0) 0 _ rfl (lit0 w2 _ (Nat.le_refl _)) ⟨gO,0,none⟩ (0) (0) ((((ints L).drop 0).take (0)).map (Value.int .i64)) rfl (by simp[ints_len,lenL]<;>omega) (part_cells (Own.alloc ownO2 _) 0 (0) _ (Or.inr rfl) (by omega)) (ints_oneCell _ _) (by unfold maxLen;omega) (by omega) (by simp) ?_)
      intro v3 w3 own3 (gr3:World.grownBy _ w3 (some w2.heap.size)) nil3
      obtain⟨g3,c3,rfl,o3⟩:=own_of_row' (n':=0) (xs:=(ints L).take (0)) own3 (by omega) (by simp) (by first|exact nil3|(rw[nil3];simp))
      have hs3:=gr3.size
      have o3':=Own.alloc o3 (.cells #[Value.int .i64 ((0:Nat):Int)] 3)
      have ownO3:=Own.kept (Own.alloc ownO2 (.cells #[] 3)) gr3 (by simp;omega)
      have ownL3:=Own.kept (Own.alloc ownL2 (.cells #[] 3)) gr3 (by simp;omega)
      have hb3:Below w.heap.size w w3:=(hb2.alloc hs2 _).grown gr3 (by simp;omega) (by simp;omega)
      have lg3:=o3.lt
      rw[World.size_alloc] at hs3
      clear own3 gr3 nil3
      go_wp2_with (at_builtin;refine wpList_append_own _ rfl (.tmp 65) (.tmp 67) 43 rfl w2.heap.size 3 i0 (.int .i64 0) 1 8 Tryz.underlying43 hi hz0 hz1 hz2 rfl (by decide) (.slice (some ⟨g3,0,none⟩) (0) c3) (0) _ rfl o3' ⟨w3.heap.size,0,none⟩ 1 1 [.int .i64 ((0:Nat):Int)] rfl rfl (one_cell w3 _) (one_one _) (by unfold maxLen;omega) (by omega) (by simp;omega) ?_)
      intro v4 w4 own4 (gr4:World.grownBy _ w4 (some g3)) nil4
      obtain⟨g4,c4,rfl,o4⟩:=own_of_row' (n':=0+1) (xs:=(ints L).take (0)++[((0:Nat):Int)]) own4 (by omega) (by simp) (by first|exact nil4|(rw[nil4];simp))
      have hs4:=gr4.size
      have ownO4:=Own.kept (Own.alloc ownO3 (.cells #[Value.int .i64 ((0:Nat):Int)] 3)) gr4 (by simp;omega)
      have ownL4:=Own.kept (Own.alloc ownL3 (.cells #[Value.int .i64 ((0:Nat):Int)] 3)) gr4 (by simp;omega)
      have hb4:Below w.heap.size w w4:=(hb3.alloc (by omega) _).grown gr4 (by simp;omega) (by simp;omega)
      have lg4:=o4.lt
      rw[World.size_alloc] at hs4
      clear own4 gr4 nil4 o3' o3
      have ord5:=ord.insert (0) (by omega) (zu HD) (Or.inl rfl)
      have o5:Own w4 w2.heap.size g4 ((0)+1) c4 (ints (L.take (0)++(0)::L.drop (0))):=by
       rw[ints_split,List.drop_of_length_le (by rw[ints_len,lenL];omega),List.append_nil]
       exact o4
      have lg5:=o5.lt
      go_wp2_with (at_builtin;refine wpList_append_own _ rfl (.tmp 69) (.tmp 72) 43 rfl w2.heap.size 3 i0 (.int .i64 0) 1 8 Tryz.underlying43 hi hz0 hz1 hz2 rfl (by decide) (.slice (some ⟨g4,0,none⟩) ((0)+1) c4) ((0)+1) _ rfl o5 ⟨gO,0,none⟩ 0 0 [] rfl rfl (by intro j u hj;simp at hj) (by intro u hu;simp at hu) (by unfold maxLen;omega) (by omega) (by omega) ?_)
      intro v5 w5 own5 (gr5:World.grownBy _ w5 (some g4)) nil5
      obtain⟨g5,c5,rfl,o6⟩:=own_of_row' (n':=(0)+1) (xs:=ints (L.take (0)++(0)::L.drop (0))) own5 (by omega) (by simp) (by first|exact nil5|(rw[nil5];simp))
      have hs5:=gr5.size
      have ownL5:=Own.kept ownL4 gr5 (by simp;omega)
      have hb5:Below w.heap.size w w5:=hb4.grown gr5 (by omega) (by simp;omega)
      have lg6:=o6.lt
      clear own5 gr5 nil5 o5 o4 ownO4 ownO3 ownL4 ownL3 ownO2 ownL2
      go_wp2
      go_roundw
      case rel=>exact⟨(0)+1,_,g5,c5,gL2,cL2,by omega,by go_num,by go_num,by go_num,by omega,Own.mono o6 (by omega),ownL5,ord5,hb5⟩
      case measure=>simp[intOf];omega
     ·have HT':=zh (show(0:Nat)=0∨R t xs k≤R t xs (L.getD (0-1) 0) from Or.inl rfl)
      go_wp2_with (at_builtin;refine wpList_append_own _ rfl (.tmp 60) (.tmp 63) 43 rfl w2.heap.size 3 i0 (.int .i64 0) 1 8 Tryz.underlying43 hi hz0 hz1 hz2 rfl (by decide) (.slice (some ⟨w2.heap.size,0,none⟩) 0 0) 0 _ rfl (lit0 w2 _ (Nat.le_refl _)) ⟨gO,0,none⟩ (0) cO ((((ints L).drop 0).take (0)).map (Value.int .i64)) rfl (by simp[ints_len,lenL]<;>omega) (part_cells (Own.alloc ownO2 _) 0 (0) _ (Or.inr rfl) (by omega)) (ints_oneCell _ _) (by unfold maxLen;omega) (by omega) (by simp) ?_)
      intro v3 w3 own3 (gr3:World.grownBy _ w3 (some w2.heap.size)) nil3
      obtain⟨g3,c3,rfl,o3⟩:=own_of_row' (n':=0) (xs:=(ints L).take (0)) own3 (by omega) (by simp) (by first|exact nil3|(rw[nil3];simp))
      have hs3:=gr3.size
      have o3':=Own.alloc o3 (.cells #[Value.int .i64 (k:Int)] 3)
      have ownO3:=Own.kept (Own.alloc ownO2 (.cells #[] 3)) gr3 (by simp;omega)
      have ownL3:=Own.kept (Own.alloc ownL2 (.cells #[] 3)) gr3 (by simp;omega)
      have hb3:Below w.heap.size w w3:=(hb2.alloc hs2 _).grown gr3 (by simp;omega) (by simp;omega)
      have lg3:=o3.lt
      rw[World.size_alloc] at hs3
      clear own3 gr3 nil3
      go_wp2_with (at_builtin;refine wpList_append_own _ rfl (.tmp 65) (.tmp 67) 43 rfl w2.heap.size 3 i0 (.int .i64 0) 1 8 Tryz.underlying43 hi hz0 hz1 hz2 rfl (by decide) (.slice (some ⟨g3,0,none⟩) (0) c3) (0) _ rfl o3' ⟨w3.heap.size,0,none⟩ 1 1 [.int .i64 (k:Int)] rfl rfl (one_cell w3 _) (one_one _) (by unfold maxLen;omega) (by omega) (by simp;omega) ?_)
      intro v4 w4 own4 (gr4:World.grownBy _ w4 (some g3)) nil4
      obtain⟨g4,c4,rfl,o4⟩:=own_of_row' (n':=0+1) (xs:=(ints L).take (0)++[(k:Int)]) own4 (by omega) (by simp) (by first|exact nil4|(rw[nil4];simp))
      have hs4:=gr4.size
      have ownO4:=Own.kept (Own.alloc ownO3 (.cells #[Value.int .i64 (k:Int)] 3)) gr4 (by simp;omega)
      have ownL4:=Own.kept (Own.alloc ownL3 (.cells #[Value.int .i64 (k:Int)] 3)) gr4 (by simp;omega)
      have hb4:Below w.heap.size w w4:=(hb3.alloc (by omega) _).grown gr4 (by simp;omega) (by simp;omega)
      have lg4:=o4.lt
      rw[World.size_alloc] at hs4
      clear own4 gr4 nil4 o3' o3
      go_wp2_with (at_builtin;refine wpList_append_own _ rfl (.tmp 69) (.tmp 72) 43 rfl w2.heap.size 3 i0 (.int .i64 0) 1 8 Tryz.underlying43 hi hz0 hz1 hz2 rfl (by decide) (.slice (some ⟨g4,0,none⟩) (0+1) c4) (0+1) _ rfl o4 ⟨gO,0,none⟩ (k-(0)) (cO-(0)) ((((ints L).drop (0)).take (k-(0))).map (Value.int .i64)) rfl (by simp[ints_len,lenL]) (part_cells ownO4 (0) (k-(0)) _ (Or.inr rfl) (by omega)) (ints_oneCell _ _) (by unfold maxLen;omega) (by omega) (by omega) ?_)
      intro v5 w5 own5 (gr5:World.grownBy _ w5 (some g4)) nil5
      obtain⟨g5,c5,rfl,o5⟩:=own_of_row' (n':=k+1) (xs:=ints (L.take (0)++k::L.drop (0))) own5 (by omega) (by rw[ints_split];simp[List.take_of_length_le,ints_len,lenL]) (by first|exact nil5|(rw[nil5];simp))
      have hs5:=gr5.size
      have ownL5:=Own.kept ownL4 gr5 (by simp;omega)
      have hb5:Below w.heap.size w w5:=hb4.grown gr5 (by omega) (by simp;omega)
      have lg5:=o5.lt
      have ord5:=ord.insert (0) (by omega) (zu HD) (Or.inl rfl)
      clear own5 gr5 nil5 o4 ownO4 ownO3 ownL4 ownL3 ownO2 ownL2
      go_wp2
      go_roundw
      case rel=>exact⟨k+1,_,g5,c5,gL2,cL2,by omega,by go_num,rfl,rfl,by omega,Own.mono o5 (by omega),ownL5,ord5,hb5⟩
      case measure=>simp[intOf];omega
    |succ q=>
     have e1:=ownO2.at q (by rw[ints_len,lenL];omega)
     rw[ints_getD] at e1
     have ha:=ord.getD_lt q (by omega)
     have e2:=ownL2.at (L.getD q 0) (by rw[rests_len];omega)
     rw[rests_getD t xs (k+1) _ (by omega)] at e2
     have HQ:=zh (show R t xs (L.getD q 0)<R t xs k→∀i,q≤i→i<k→R t xs (L.getD i 0)<R t xs k from fun h i h1 h2=>by
      by_cases e:i=q
      ·subst e;exact h
      ·exact zu HD i (by omega) h2)
     have HT:=zh (show ¬R t xs (L.getD q 0)<R t xs k→(q+1=0∨R t xs k≤R t xs (L.getD (q+1-1) 0)) from fun h=>Or.inr (by simpa using h))
     generalize L.getD q 0=a at *
     by_cases s:R t xs a<R t xs k
     ·go_wp2
      go_round
      case rel=>exact⟨q,by omega,by go_num,zh ((zu HQ) s)⟩
      case measure=>simp[intOf]
     ·by_cases hc:cO=q+1
      ·have HT':=zh ((zu HT) s)
       obtain rfl:k=q+1:=by omega
       subst hc
       go_wp2_with (at_builtin;refine wpList_append_own _ rfl (.tmp 60) (.tmp 63) 43 rfl w2.heap.size 3 i0 (.int .i64 0) 1 8 Tryz.underlying43 hi hz0 hz1 hz2 rfl (by decide) (.slice (some ⟨w2.heap.size,0,none⟩) 0 0) 0 _ rfl (lit0 w2 _ (Nat.le_refl _)) ⟨gO,0,none⟩ (q+1) (q+1) ((((ints L).drop 0).take (q+1)).map (Value.int .i64)) rfl (by simp[ints_len,lenL]<;>omega) (part_cells (Own.alloc ownO2 _) 0 (q+1) _ (Or.inr rfl) (by omega)) (ints_oneCell _ _) (by unfold maxLen;omega) (by omega) (by simp) ?_)
       intro v3 w3 own3 (gr3:World.grownBy _ w3 (some w2.heap.size)) nil3
       obtain⟨g3,c3,rfl,o3⟩:=own_of_row' (n':=q+1) (xs:=(ints L).take (q+1)) own3 (by omega) (by simp) (by first|exact nil3|(rw[nil3];simp))
       have hs3:=gr3.size
       have o3':=Own.alloc o3 (.cells #[Value.int .i64 ((q+1:Nat):Int)] 3)
       have ownO3:=Own.kept (Own.alloc ownO2 (.cells #[] 3)) gr3 (by simp;omega)
       have ownL3:=Own.kept (Own.alloc ownL2 (.cells #[] 3)) gr3 (by simp;omega)
       have hb3:Below w.heap.size w w3:=(hb2.alloc hs2 _).grown gr3 (by simp;omega) (by simp;omega)
       have lg3:=o3.lt
       rw[World.size_alloc] at hs3
       clear own3 gr3 nil3
       go_wp2_with (at_builtin;refine wpList_append_own _ rfl (.tmp 65) (.tmp 67) 43 rfl w2.heap.size 3 i0 (.int .i64 0) 1 8 Tryz.underlying43 hi hz0 hz1 hz2 rfl (by decide) (.slice (some ⟨g3,0,none⟩) (q+1) c3) (q+1) _ rfl o3' ⟨w3.heap.size,0,none⟩ 1 1 [.int .i64 ((q+1:Nat):Int)] rfl rfl (one_cell w3 _) (one_one _) (by unfold maxLen;omega) (by omega) (by simp;omega) ?_)
       intro v4 w4 own4 (gr4:World.grownBy _ w4 (some g3)) nil4
       obtain⟨g4,c4,rfl,o4⟩:=own_of_row' (n':=q+1+1) (xs:=(ints L).take (q+1)++[((q+1:Nat):Int)]) own4 (by omega) (by simp) (by first|exact nil4|(rw[nil4];simp))
       have hs4:=gr4.size
       have ownO4:=Own.kept (Own.alloc ownO3 (.cells #[Value.int .i64 ((q+1:Nat):Int)] 3)) gr4 (by simp;omega)
       have ownL4:=Own.kept (Own.alloc ownL3 (.cells #[Value.int .i64 ((q+1:Nat):Int)] 3)) gr4 (by simp;omega)
       have hb4:Below w.heap.size w w4:=(hb3.alloc (by omega) _).grown gr4 (by simp;omega) (by simp;omega)
       have lg4:=o4.lt
       rw[World.size_alloc] at hs4
       clear own4 gr4 nil4 o3' o3
       have ord5:=ord.insert (q+1) (by omega) (zu HD) (zu HT')
       have o5:Own w4 w2.heap.size g4 ((q+1)+1) c4 (ints (L.take (q+1)++(q+1)::L.drop (q+1))):=by
        rw[ints_split,List.drop_of_length_le (by rw[ints_len,lenL];omega),List.append_nil]
        exact o4
       have lg5:=o5.lt
       go_wp2_with (at_builtin;refine wpList_append_own _ rfl (.tmp 69) (.tmp 72) 43 rfl w2.heap.size 3 i0 (.int .i64 0) 1 8 Tryz.underlying43 hi hz0 hz1 hz2 rfl (by decide) (.slice (some ⟨g4,0,none⟩) ((q+1)+1) c4) ((q+1)+1) _ rfl o5 ⟨gO,0,none⟩ 0 0 [] rfl rfl (by intro j u hj;simp at hj) (by intro u hu;simp at hu) (by unfold maxLen;omega) (by omega) (by omega) ?_)
       intro v5 w5 own5 (gr5:World.grownBy _ w5 (some g4)) nil5
       obtain⟨g5,c5,rfl,o6⟩:=own_of_row' (n':=(q+1)+1) (xs:=ints (L.take (q+1)++(q+1)::L.drop (q+1))) own5 (by omega) (by simp) (by first|exact nil5|(rw[nil5];simp))
       have hs5:=gr5.size
       have ownL5:=Own.kept ownL4 gr5 (by simp;omega)
       have hb5:Below w.heap.size w w5:=hb4.grown gr5 (by omega) (by simp;omega)
       have lg6:=o6.lt
       clear own5 gr5 nil5 o5 o4 ownO4 ownO3 ownL4 ownL3 ownO2 ownL2
       go_wp2
       go_roundw
       case rel=>exact⟨(q+1)+1,_,g5,c5,gL2,cL2,by omega,by go_num,by go_num,by go_num,by omega,Own.mono o6 (by omega),ownL5,ord5,hb5⟩
       case measure=>simp[intOf];omega
      ·have HT':=zh ((zu HT) s)
       go_wp2_with (at_builtin;refine wpList_append_own _ rfl (.tmp 60) (.tmp 63) 43 rfl w2.heap.size 3 i0 (.int .i64 0) 1 8 Tryz.underlying43 hi hz0 hz1 hz2 rfl (by decide) (.slice (some ⟨w2.heap.size,0,none⟩) 0 0) 0 _ rfl (lit0 w2 _ (Nat.le_refl _)) ⟨gO,0,none⟩ (q+1) cO ((((ints L).drop 0).take (q+1)).map (Value.int .i64)) rfl (by simp[ints_len,lenL]<;>omega) (part_cells (Own.alloc ownO2 _) 0 (q+1) _ (Or.inr rfl) (by omega)) (ints_oneCell _ _) (by unfold maxLen;omega) (by omega) (by simp) ?_)
       intro v3 w3 own3 (gr3:World.grownBy _ w3 (some w2.heap.size)) nil3
       obtain⟨g3,c3,rfl,o3⟩:=own_of_row' (n':=q+1) (xs:=(ints L).take (q+1)) own3 (by omega) (by simp) (by first|exact nil3|(rw[nil3];simp))
       have hs3:=gr3.size
       have o3':=Own.alloc o3 (.cells #[Value.int .i64 (k:Int)] 3)
       have ownO3:=Own.kept (Own.alloc ownO2 (.cells #[] 3)) gr3 (by simp;omega)
       have ownL3:=Own.kept (Own.alloc ownL2 (.cells #[] 3)) gr3 (by simp;omega)
       have hb3:Below w.heap.size w w3:=(hb2.alloc hs2 _).grown gr3 (by simp;omega) (by simp;omega)
       have lg3:=o3.lt
       rw[World.size_alloc] at hs3
       clear own3 gr3 nil3
       go_wp2_with (at_builtin;refine wpList_append_own _ rfl (.tmp 65) (.tmp 67) 43 rfl w2.heap.size 3 i0 (.int .i64 0) 1 8 Tryz.underlying43 hi hz0 hz1 hz2 rfl (by decide) (.slice (some ⟨g3,0,none⟩) (q+1) c3) (q+1) _ rfl o3' ⟨w3.heap.size,0,none⟩ 1 1 [.int .i64 (k:Int)] rfl rfl (one_cell w3 _) (one_one _) (by unfold maxLen;omega) (by omega) (by simp;omega) ?_)
       intro v4 w4 own4 (gr4:World.grownBy _ w4 (some g3)) nil4
       obtain⟨g4,c4,rfl,o4⟩:=own_of_row' (n':=q+1+1) (xs:=(ints L).take (q+1)++[(k:Int)]) own4 (by omega) (by simp) (by first|exact nil4|(rw[nil4];simp))
       have hs4:=gr4.size
       have ownO4:=Own.kept (Own.alloc ownO3 (.cells #[Value.int .i64 (k:Int)] 3)) gr4 (by simp;omega)
       have ownL4:=Own.kept (Own.alloc ownL3 (.cells #[Value.int .i64 (k:Int)] 3)) gr4 (by simp;omega)
       have hb4:Below w.heap.size w w4:=(hb3.alloc (by omega) _).grown gr4 (by simp;omega) (by simp;omega)
       have lg4:=o4.lt
       rw[World.size_alloc] at hs4
       clear own4 gr4 nil4 o3' o3
       go_wp2_with (at_builtin;refine wpList_append_own _ rfl (.tmp 69) (.tmp 72) 43 rfl w2.heap.size 3 i0 (.int .i64 0) 1 8 Tryz.underlying43 hi hz0 hz1 hz2 rfl (by decide) (.slice (some ⟨g4,0,none⟩) (q+1+1) c4) (q+1+1) _ rfl o4 ⟨gO,q+1,none⟩ (k-(q+1)) (cO-(q+1)) ((((ints L).drop (q+1)).take (k-(q+1))).map (Value.int .i64)) rfl (by simp[ints_len,lenL]) (part_cells ownO4 (q+1) (k-(q+1)) _ (Or.inr rfl) (by omega)) (ints_oneCell _ _) (by unfold maxLen;omega) (by omega) (by omega) ?_)
       intro v5 w5 own5 (gr5:World.grownBy _ w5 (some g4)) nil5
       obtain⟨g5,c5,rfl,o5⟩:=own_of_row' (n':=k+1) (xs:=ints (L.take (q+1)++k::L.drop (q+1))) own5 (by omega) (by rw[ints_split];simp[List.take_of_length_le,ints_len,lenL]) (by first|exact nil5|(rw[nil5];simp))
       have hs5:=gr5.size
       have ownL5:=Own.kept ownL4 gr5 (by simp;omega)
       have hb5:Below w.heap.size w w5:=hb4.grown gr5 (by omega) (by simp;omega)
       have lg5:=o5.lt
       have ord5:=ord.insert (q+1) (by omega) (zu HD) (zu HT')
       clear own5 gr5 nil5 o4 ownO4 ownO3 ownL4 ownL3 ownO2 ownL2
       go_wp2
       go_roundw
       case rel=>exact⟨k+1,_,g5,c5,gL2,cL2,by omega,by go_num,rfl,rfl,by omega,Own.mono o5 (by omega),ownL5,ord5,hb5⟩
       case measure=>simp[intOf];omega
  ·obtain rfl:k=n:=by omega
   have HO:=zh ownO
   have HB:=zh hb
   clear ownO ownL hb
   go_wp2
   go_ret
   exact⟨L,gO,cO,ord,rfl,zu HO,zu HB⟩
end SOrder
namespace SShares
open Ints Weigh Quota Order Parts SOrder
theorem sShares_good(w:World)(t:Int)(g n cap:Nat)(xs:List Int)(hl:xs.length=n)(hg:g<w.heap.size)(h:At w g xs)(good:Weigh.Good xs)(ht:Tot t):
  Calls Tryz.prog 71 #[.int .i64 t,.slice (some ⟨g,0,none⟩) n cap] w fun e w'=>∃L,∃M:Nat,∃g' c,IsOrder t xs n L∧t-SQ t xs n=(M:Int)∧M<n∧e= .returned (.tuple #[.slice (some ⟨g',0,none⟩) n c,.bool true])∧Own w' w.heap.size g' n c (bump (wholes t xs n) L M)∧Below w.heap.size w w':=by
 have n40:n≤40:=by have:=good.1.2;omega
 obtain⟨M,hM,hMn⟩:=missing_nat t xs ht good
 rw[hl] at hM hMn
 have HM:=zh hM
 have BD:=zh (fun(k:Nat) (hk:k≤n)=>(show 0≤SQ t xs k∧SQ t xs k≤t from by
  have a1:=SQ_mono t xs ht good 0 k (by omega) (by omega)
  have a2:=SQ_mono t xs ht good k n hk (by omega)
  have a3:SQ t xs 0=0:=rfl
  omega))
 have QB:=zh (fun(k:Nat) (hk:k<n)=>Q_le t xs k ht good (by omega))
 have WB:=zh (fun L m j=>bump_bd (wholes t xs n) L t ht.1 (by rw[←hl];exact wholes_bd t xs ht good) m j)
 have t1:=ht.2
 have t0:=ht.1
 have GT:=zh (And.intro good ht)
 have H:=zh h
 have HG:=zh hg
 obtain⟨i0,hi,hz0,hz1,hz2⟩:=info_parts info3
 clear good ht h hg hM
 go_enter Tryz.func71,Tryz.ntmps71
 go_wp2_with fail
 refine(sWeights _ g n cap xs true hl (by omega) ((zu H).below (Below.alloc (Below.refl _ _) (Nat.le_refl _) _) (zu HG)) (zh ⟨fun _=>(zu GT).1,fun _=>rfl⟩)).mono ?_
 rintro e w1 ⟨rfl,hw1⟩
 go_wp2_with fail
 refine(sSome t 0 true _ (zh ⟨fun _=>(zu GT).2,fun _=>rfl⟩)).mono ?_
 rintro e w2 ⟨rfl,hw2⟩
 subst hw2
 subst hw1
 go_wp2_with fail
 go_loopw [6,7,8] (fun o l i wr=>∃(k:Nat) (gO cO:Nat),k≤n∧i= .int .i64 k∧o= .slice (some ⟨gO,0,none⟩) k cO∧l= .int .i64 (t-SQ t xs k)∧Own wr w.heap.size gO k cO (wholes t xs k)∧Below w.heap.size w wr) (fun _ _ i _=>n-(intOf i).toNat)
 case atStart=>
  refine⟨0,_,_,by omega,rfl,rfl,?_,lit0 w w.heap.size (Nat.le_refl _),(Below.refl _ _).alloc (Nat.le_refl _) _⟩
  simp[SQ]
 case round=>
  obtain⟨k,gO,cO,hk,rfl,rfl,rfl,ownO,hb⟩:=hrel
  by_cases lt:k<n
  ·have c1:=sQuota wr t k (Q t xs k) (R t xs k) true g n cap xs hl (by omega) ((zu H).below hb (zu HG)) (zh (Or.inl ⟨(zu GT).1,(zu GT).2,⟨by omega,by omega⟩,by simp,by simp,rfl⟩))
   obtain⟨q0,q1⟩:=zu QB k lt
   obtain⟨d0,d1⟩:=zu BD k hk
   have E:=zh (show SQ t xs (k+1)=SQ t xs k+Q t xs k from rfl)
   go_wp2_with fail
   refine c1.mono ?_
   rintro e w1 ⟨rfl,m,rfl⟩
   have ownO1:Own (wr.drewN m) w.heap.size gO k cO (wholes t xs k):=ownO
   have hb1:Below w.heap.size w (wr.drewN m):=below_drewN hb m
   clear ownO hb c1
   generalize wr.drewN m=w1 at *
   have hs1:=hb1.size
   have lO:=ownO1.lt
   go_wp2_with (at_builtin;refine wpList_append_own _ rfl (.tmp 39) (.tmp 41) 43 rfl w.heap.size 3 i0 (.int .i64 0) 1 8 Tryz.underlying43 hi hz0 hz1 hz2 rfl (by decide) (.slice (some ⟨gO,0,none⟩) k cO) k _ rfl (SOrder.Own.alloc ownO1 _) ⟨w1.heap.size,0,none⟩ 1 1 [.int .i64 (Q t xs k)] rfl rfl (one_cell w1 _) (one_one _) (by unfold maxLen;omega) (by omega) (by simp;omega) ?_)
   intro v2 w2 own2 (gr2:World.grownBy _ w2 (some gO)) nil2
   obtain⟨g2,c2,rfl,o2⟩:=own_of_row' (n':=k+1) (xs:=wholes t xs (k+1)) own2 (by omega) (by rw[wholes_succ];simp) (by first|exact nil2|(rw[nil2];simp))
   have hb2:Below w.heap.size w w2:=(hb1.alloc hs1 _).grown gr2 (by simp;omega) (by simp;omega)
   have O2:=zh o2
   have B2:=zh hb2
   clear own2 gr2 nil2 ownO1 hb1 o2 hb2
   generalize Q t xs k=q at *
   generalize SQ t xs k=sq at *
   go_wp2
   go_roundw
   case rel=>exact⟨k+1,g2,c2,by omega,by go_num,rfl,by rw[zu E];congr 1;omega,zu O2,zu B2⟩
   case measure=>simp[intOf];omega
  ·obtain rfl:k=n:=by omega
   have hs:=hb.size
   have c1:=sOrder_good wr t g k cap xs hl (Nat.lt_of_lt_of_le (zu HG) hs) ((zu H).below hb (zu HG)) (zu GT).1 (zu GT).2
   rw[zu HM]
   have lO:=ownO.lt
   clear BD QB
   go_wp2_with fail
   refine c1.mono ?_
   rintro e w3 ⟨L,gL,cL,ord,rfl,ownL,b3⟩
   have ownO:=ownO.below b3 ownO.lt.2
   have hb:=next hb b3
   have lL:=ownL.lt
   have hlen:=ord.len
   have ORD:=zh ord
   clear c1 b3 ord
   go_wp2_with fail
   go_loopw [13] (fun i wx=>∃(j:Nat),j≤M∧i= .int .i64 j∧Own wx w.heap.size gO k cO (bump (wholes t xs k) L j)∧Own wx wr.heap.size gL k cL (ints L)∧Below w.heap.size w wx) (fun i _=>M-(intOf i).toNat)
   case atStart=>exact⟨0,by omega,rfl,ownO,ownL,hb⟩
   case round=>
    clear ownO ownL hb
    obtain⟨j,hj,rfl,ownO,ownL,hb⟩:=hrel
    by_cases lt:j<M
    ·have e1:=ownL.at j (by rw[ints_len,hlen];omega)
     rw[ints_getD] at e1
     have ha:=(zu ORD).getD_lt j (by omega)
     have e2:=ownO.at (L.getD j 0) (by rw[ownO.len];exact ha)
     have ff:=ownO.free (L.getD j 0)
     obtain⟨v0,v1⟩:=zu WB L j (L.getD j 0)
     obtain⟨p,q⟩:=ownO.set (L.getD j 0) ((bump (wholes t xs k) L j).getD (L.getD j 0) 0+1)
     have P:Hid (Own _ w.heap.size gO k cO (bump (wholes t xs k) L (j+1))):=p
     have PL:=zh (ownL.kept q (by simp;omega))
     have PB:=zh (hb.setCell (p:=⟨gO,L.getD j 0,none⟩) lO.1 (.int .i64 ((bump (wholes t xs k) L j).getD (L.getD j 0) 0+1)))
     clear p q ownO ownL hb
     generalize (bump (wholes t xs k) L j).getD (L.getD j 0) 0=v at *
     generalize L.getD j 0=a at *
     have i1:(0:Int)≤(a:Int):=by omega
     have i2:(a:Int)<(k:Int):=by omega
     have i3:(0:Int)≤(j:Int):=by omega
     have i4:(j:Int)<(k:Int):=by omega
     go_wp2_with fail
     go_region
     go_wp2
     go_roundw
     case rel=>exact⟨j+1,by omega,by go_num,zu P,zu PL,(zu PB).drew⟩
     case measure=>simp[intOf];omega
    ·obtain rfl:j=M:=by omega
     have O:=zh ownO
     have B:=zh hb
     clear ownO ownL hb
     go_wp2
     go_ret2
     exact⟨L,j,gO,cO,zu ORD,zu HM,hMn,rfl,zu O,zu B⟩
theorem sShares_bad(w:World)(t:Int)(g n cap:Nat)(xs:List Int)(hl:xs.length=n)(h20:n≤1048576)(hg:g<w.heap.size)(h:At w g xs)(bad:¬(Weigh.Good xs∧Tot t)):
  Calls Tryz.prog 71 #[.int .i64 t,.slice (some ⟨g,0,none⟩) n cap] w fun e w'=>e= .returned (.tuple #[.slice (some ⟨w.heap.size,0,none⟩) 0 0,.bool false])∧Own w' w.heap.size w.heap.size 0 0 []∧Below w.heap.size w w':=by
 have H:=zh h
 have HG:=zh hg
 have a1:=zh (lit0 w w.heap.size (Nat.le_refl _))
 have b1:=zh (Below.alloc (Below.refl w.heap.size w) (Nat.le_refl _) (.cells #[] 3))
 by_cases good:Weigh.Good xs
 ·have ht:=zh (show ¬Tot t from fun k=>bad ⟨good,k⟩)
  have GG:=zh good
  clear h hg good bad
  go_enter Tryz.func71,Tryz.ntmps71
  go_wp2_with fail
  refine(sWeights _ g n cap xs true hl h20 ((zu H).below (zu b1) (zu HG)) (zh ⟨fun _=>zu GG,fun _=>rfl⟩)).mono ?_
  rintro e w1 ⟨rfl,hw1⟩
  go_wp2_with fail
  refine(sSome t 0 false _ (zh ⟨fun h=>Bool.noConfusion h,fun h=>absurd h (zu ht)⟩)).mono ?_
  rintro e w2 ⟨rfl,hw2⟩
  subst hw2
  subst hw1
  go_wp2
  go_ret2
  exact⟨rfl,zu a1,zu b1⟩
 ·have GG:=zh good
  clear h hg good bad
  go_enter Tryz.func71,Tryz.ntmps71
  go_wp2_with fail
  refine(sWeights _ g n cap xs false hl h20 ((zu H).below (zu b1) (zu HG)) (zh ⟨fun h=>Bool.noConfusion h,fun h=>absurd h (zu GG)⟩)).mono ?_
  rintro e w1 ⟨rfl,hw1⟩
  subst hw1
  go_wp2
  go_ret2
  exact⟨rfl,zu a1,zu b1⟩
theorem sShares(w:World)(t:Int)(g n cap:Nat)(xs:List Int)(hl:xs.length=n)(h20:n≤1048576)(hg:g<w.heap.size)(h:At w g xs):
  Calls Tryz.prog 71 #[.int .i64 t,.slice (some ⟨g,0,none⟩) n cap] w fun e w'=>∃ps ok g' c,STells t xs ps ok∧e= .returned (.tuple #[.slice (some ⟨g',0,none⟩) ps.length c,.bool ok])∧Own w' w.heap.size g' ps.length c ps∧Below w.heap.size w w':=by
 by_cases good:Weigh.Good xs∧Tot t
 ·refine(sShares_good w t g n cap xs hl hg h good.1 good.2).mono ?_
  rintro e w' ⟨L,M,g',c,ord,hM,hMn,rfl,o,b⟩
  have hn:=o.len
  exact⟨_,true,g',c,Or.inl ⟨good.1,good.2,rfl,L,M,by rw[hl];exact ord,by rw[hl];exact hM,by rw[hl];exact hMn,by rw[hl]⟩,by rw[hn],by rw[hn];exact o,b⟩
 ·refine(sShares_bad w t g n cap xs hl h20 hg h good).mono ?_
  rintro e w' ⟨rfl,o,b⟩
  exact⟨[],false,_,_,Or.inr ⟨good,rfl,rfl⟩,rfl,o,b⟩
end SShares
namespace SScale
open Tup5 Lots Takes SOk5 SSplit Quieter ICut Cat5 Scale
open Parts (STells)
def qtys(own:List T5):List Int:=own.map fun p=>p.2.2.2.1
def ScaleOk(ps:List T5)(q:Int):Prop:=Right ps∧0≤q∧q≤1000000000000000
def scaleA(ps R:List T5)(bad short full:Bool):List T5:=if bad=true then[] else if short=true then ps else if full=true then ps else R
def scaleD(bad short full:Bool):Int:=if bad=true then 1 else if short=true then 2 else if full=true then 3 else 0
theorem rest_all{ps:List T5}{a i:Int}(h:ownL ps a i=[]):restL ps a i=ps:=filter_all (fun p hp=>by
 have:p∉ownL ps a i:=by rw[h];exact List.not_mem_nil
 have n:¬(p.1=a∧p.2.1=i):=fun e=>this (List.mem_filter.2 ⟨hp,decide_eq_true e⟩)
 rw[decide_eq_false n]
 rfl)
theorem qtys_len(own:List T5):(qtys own).length=own.length:=by simp[qtys]
theorem qtys_next{own:List T5}{k:Nat}(h:k<own.length):qtys (own.take (k+1))=qtys (own.take k)++[(el5 own k).2.2.2.1]:=by
 rw[take_next h]
 simp[qtys]
theorem qtys_getD(own:List T5)(k:Nat)(h:k<own.length):(qtys own).getD k 0=(el5 own k).2.2.2.1:=by simp[qtys,el5,List.getD,h]
theorem qtys_sum(own:List T5):∀k,k≤own.length→Weigh.S (qtys own) k=sumQ (own.take k)
 |0,_=>rfl
 |k+1,h=>by
  rw[sumQ_next (by omega),←qtys_sum own k (by omega),←qtys_getD own k (by omega)]
  rfl
theorem good_qtys{own:List T5}(h:∀p∈own,Pos p)(hs:sumQ own≤1000000000000000)(n0:own.length≠0)(n40:own.length≤40):Weigh.Good (qtys own):=by
 have len:=qtys_len own
 refine⟨by omega,fun k hk=>?_,?_⟩
 ·rw[qtys_getD own k (by omega)]
  have:=h _ (getD_mem (ps:=own) (i:=k) (by omega))
  unfold Pos at this
  unfold Weigh.Wt
  omega
 ·rw[len,qtys_sum own _ (Nat.le_refl _),List.take_length]
  refine⟨?_,hs⟩
  cases own with
  |nil=>simp at n0
  |cons p r=>
   have h1:=h p List.mem_cons_self
   have h2:=sum_pos r (fun z hz=>h z (List.mem_cons_of_mem _ hz))
   unfold Pos at h1
   simp only[sumQ]
   omega
theorem shares_len{own:List T5}{q:Int}{ss:List Int}{ok:Bool}(h:STells q (qtys own) ss ok)(g:Weigh.Good (qtys own))(t:Quota.Tot q):ss.length=own.length:=by
 rcases h with⟨_,_,_,L,M,_,_,_,rfl⟩|h
 ·rw[Parts.bump_len,Parts.wholes_len,qtys_len]
 ·exact absurd ⟨g,t⟩ h.1
theorem kept_cost{own:List T5}(h:∀p∈own,Pos p)(ss:List Int):∀k,k≤own.length→∀p∈keptN own ss k,0≤p.2.2.2.2∧p.2.2.2.2≤1000000000000000
 |0,_,p,hp=>absurd hp List.not_mem_nil
 |k+1,hk,p,hp=>by
  unfold keptN at hp
  rcases List.mem_append.1 hp with hp|hp
  ·exact kept_cost h ss k (by omega) p hp
  ·split at hp
   ·exact absurd hp List.not_mem_nil
   ·rw[List.mem_singleton] at hp
    subst hp
    exact(h (el5 own k) (getD_mem (by omega))).2
theorem wp_appI(u:World){ops:Array Oper}{rest:List Oper}{o:Oper}{a:Act}{Q:Exit→Act→World→Prop}(hgd:o.guard=none)(s x:Operand)
  (ho:o.op= .call {callee:= .builtin .append,args:= #[s,x],argTypes:= #[43,43]})(base g n cap:Nat)(xs:List Int)(vb:Nat)(y:Int)
  (hs:a.eval s= .slice (some ⟨g,0,none⟩) n cap)(hx:a.eval x= .slice (some ⟨vb,0,none⟩) 1 1)(hown:Ints.Own u base g n cap xs)(hv:u.cell? ⟨vb,0,none⟩=some (.int .i64 y))(hn:n≤1048576)(hb:base≤u.heap.size)
  (h:∀g' c' w',Ints.Own w' base g' (n+1) c' (xs++[y])→u.grownBy w' (some g)→(g'=g∨g'=u.heap.size)→wpList Tryz.prog ops Q rest (a.put o.dst (.slice (some ⟨g',0,none⟩) (n+1) c')) w'):wpList Tryz.prog ops Q (o::rest) a u:=by
 obtain⟨i0,hi,hz0,hz1,hz2⟩:=info_parts Ints.info3
 refine wpList_append_own_at u hgd s x 43 ho base 3 i0 (.int .i64 0) 1 8 Tryz.underlying43 hi hz0 hz1 hz2 rfl (by decide) _ n _ hs hown ⟨vb,0,none⟩ 1 1 [.int .i64 y] hx rfl (fun j v hj=>by
  cases j with
  |zero=>
   have e:v= .int .i64 y:=by simpa using hj.symm
   rw[e]
   simpa[Addr.add] using hv
  |succ j=>simp at hj) (by simp[Value.oneCell']) (by unfold maxLen;omega) (by omega) hb ?_
 intro v' w' own' gr' nil' loc'
 obtain⟨g',c',rfl,o'⟩:=SOrder.own_of_row' (n':=n+1) (xs:=xs++[y]) own' rfl (by simp) (by rw[nil'];simp)
 exact h g' c' w' o' gr' (by simpa[Value.ownBlock] using loc')
theorem sScale(w:World)(g n cap:Nat)(ps R:List T5)(ss:List Int)(okS:Bool)(a i q:Int)(bad short full:Bool)(hl:ps.length=n)(h20:n≤1048576)(hg:g<w.heap.size)(h:At5 w g ps)(hbad:Says bad (¬ScaleOk ps q))(hshort:Says short ((ownL ps a i).length=0∧0<q))(hfull:Says full (40<(ownL ps a i).length))(hS:Hid (STells q (qtys (ownL ps a i)) ss okS))(hR:Hid (R=mergeL ((restL ps a i).length+(scaleL (ownL ps a i) ss).length) (restL ps a i) (scaleL (ownL ps a i) ss))):
  Calls Tryz.prog 72 #[.slice (some ⟨g,0,none⟩) n cap,.int .i64 a,.int .i64 i,.int .i64 q] w fun e w'=>∃g' c',e= .returned (.tuple #[.slice (some ⟨g',0,none⟩) (scaleA ps R bad short full).length c',.int .i64 (scaleD bad short full)])∧Own5 123 w' w.heap.size g' (scaleA ps R bad short full).length c' (scaleA ps R bad short full)∧Below w.heap.size w w':=by
 obtain⟨ok,OK⟩:=says_of (Right ps)
 obtain⟨b2,B2⟩:=says_of (0≤q∧q≤1000000000000000)
 have H:=zh h
 clear h
 go_enter Tryz.func72,Tryz.ntmps72
 go_wp2_with fail
 refine(sOk w g n cap ps ok hl h20 hg (zu H) OK).mono ?_
 rintro e w1 ⟨rfl,b1⟩
 have H1:=zh ((zu H).below b1 hg)
 have HB:=zh b1
 have hg1:=Nat.lt_of_lt_of_le hg b1.size
 have NOLIT:=zh (lit50 123 w1 w.heap.size b1.size)
 have NB:=zh ((zu HB).alloc b1.size (.cells #[] 123))
 clear b1 H
 cases ok
 ·obtain rfl:bad=true:=hbad.of (fun r=>OK.no r.1)
  go_wp2
  go_ret2
  exact⟨w1.heap.size,0,rfl,zu NOLIT,zu NB⟩
 go_wp2_with fail
 refine(sSome q 0 b2 _ B2).mono ?_
 rintro e w2 ⟨rfl,rfl⟩
 cases b2
 ·obtain rfl:bad=true:=hbad.of (fun r=>B2.no r.2)
  go_wp2
  go_ret2
  exact⟨w2.heap.size,0,rfl,zu NOLIT,zu NB⟩
 obtain rfl:bad=false:=hbad.not (fun r=>r ⟨OK.yes,B2.yes⟩)
 obtain⟨q0,qM⟩:=B2.yes
 have n120:=OK.yes.1
 have OP:=zh (own_pos OK.yes a i)
 have OLEN:(ownL ps a i).length≤n:=by rw[←hl];exact List.length_filter_le _ _
 have RLEN:(restL ps a i).length≤n:=by rw[←hl];exact List.length_filter_le _ _
 have RA:=zh (rest_all (ps:=ps) (a:=a) (i:=i))
 clear NOLIT NB hbad
 go_wp2_with fail
 refine(sSplit w2 g n cap ps a i hl (by omega) hg1 (zu H1)).mono ?_
 rintro e w4 ⟨go,co,gr,cr,rfl,oo,or,ne,b4⟩
 have H4:=zh ((zu H1).below b4 hg1)
 have hg4:=Nat.lt_of_lt_of_le hg1 b4.size
 have OO:=zh (oo.rebase (base':=w.heap.size) (Nat.le_trans (zu HB).size oo.lt.1))
 have OR:=zh (or.rebase (base':=w.heap.size) (Nat.le_trans (zu HB).size or.lt.1))
 have HB4:=zh (next (zu HB) b4)
 clear oo or b4 HB H1 hg1
 obtain⟨own,HO⟩:∃own,Hid (ownL ps a i=own):=⟨_,rfl⟩
 obtain⟨rest,HE⟩:∃rest,Hid (restL ps a i=rest):=⟨_,rfl⟩
 rw[zu HO] at hshort hfull hS hR OP OLEN OO RA⊢
 rw[zu HE] at hR RLEN OR RA⊢
 have L1:=zh (lit50 123 w4 w.heap.size (zu HB4).size)
 have ONE:=(Below.refl w4.heap.size w4).alloc (Nat.le_refl _) (.cells #[] 123)
 have B6:=zh ((zu HB4).alloc (zu HB4).size (.cells #[] 123))
 have A6:=zh ((zu H4).below ONE hg4)
 have O6:=zh ((zu OO).below ONE (zu OO).lt.2)
 have R6:=zh ((zu OR).below ONE (zu OR).lt.2)
 have bs:=(zu B6).size
 have d1:=(zu OO).lt.2
 have d2:=(zu OR).lt.2
 clear ONE OO OR HB4 H4
 go_wp2_with (first|(at_builtin;refine wp_copyO _ rfl _ _ rfl w.heap.size w4.heap.size 0 n ps g 0 cap rfl rfl (zu L1) hl (at_o (zu A6)) (by omega) bs ?_)|go_in)
 intro g7 c7 w7 o7 gr7 loc7
 have S7:=zh o7
 have B7:=zh ((zu B6).grown gr7 bs (fun j hj=>by cases hj;exact(zu L1).lt.1))
 have O7:=zh ((zu O6).kept gr7 (by simp;omega))
 have R7:=zh ((zu R6).kept gr7 (by simp;omega))
 clear o7 gr7 loc7 L1 A6 O6 R6 B6 bs d1 d2 hg4
 by_cases z:own.length=0
 ·obtain rfl:full=false:=hfull.not (by omega)
  by_cases qz:0<q
  ·obtain rfl:short=true:=hshort.of ⟨z,qz⟩
   have zb:((own.length:Int)==0)=true:=by rw[beq_iff_eq];omega
   have qb:decide ((0:Int)<q)=true:=decide_eq_true qz
   have HZ:=zh z
   clear z
   go_wp2
   go_ret2
   rw[show scaleA ps R false true false=ps from rfl,show scaleD false true false=2 from rfl,hl]
   exact⟨g7,c7,rfl,zu S7,zu B7⟩
  ·obtain rfl:short=false:=hshort.not (fun r=>qz r.2)
   have ON:own=[]:=List.eq_nil_of_length_eq_zero z
   have RP:=zh (show R=ps from by
    rw[zu hR,(zu RA) ON,ON]
    exact merge_left _ _ (by simp))
   have zb:((own.length:Int)==0)=true:=by rw[beq_iff_eq];omega
   have HZ:=zh z
   clear z ON
   go_wp2
   go_ret2
   rw[show scaleA ps R false false false=R from rfl,show scaleD false false false=0 from rfl,zu RP,hl]
   exact⟨g7,c7,rfl,zu S7,zu B7⟩
 obtain rfl:short=false:=hshort.not (fun r=>z r.1)
 have zb:((own.length:Int)==0)=false:=by rw[beq_eq_false_iff_ne];omega
 by_cases f40:40<own.length
 ·obtain rfl:full=true:=hfull.of f40
  have fi:(40:Int)<(own.length:Int):=by omega
  go_wp2
  go_ret2
  rw[show scaleA ps R false false true=ps from rfl,show scaleD false false true=3 from rfl,hl]
  exact⟨g7,c7,rfl,zu S7,zu B7⟩
 obtain rfl:full=false:=hfull.not f40
 have fi:¬(40:Int)<(own.length:Int):=by omega
 clear S7 RA
 have W0:=zh (SOrder.lit0 w7 w.heap.size (zu B7).size)
 have ONE:=(Below.refl w7.heap.size w7).alloc (Nat.le_refl _) (.cells #[] 3)
 have B8:=zh ((zu B7).alloc (zu B7).size (.cells #[] 3))
 have O8:=zh ((zu O7).below ONE (zu O7).lt.2)
 have R8:=zh ((zu R7).below ONE (zu R7).lt.2)
 have e1:=(zu O7).lt.2
 have e2:=(zu R7).lt.2
 have own40:own.length≤40:=by omega
 clear ONE O7 R7 B7
 go_wp2
 generalize w7.alloc (.cells #[] 3)=w8 at *
 go_loopw [13,14] (fun l j wr=>∃(gw cw k:Nat),l= .slice (some ⟨gw,0,none⟩) k cw∧j= .int .i64 k∧k≤own.length∧gw≠go∧gw≠gr∧Hid (Ints.Own wr w.heap.size gw k cw (qtys (own.take k)))∧Hid (Own5 123 wr w.heap.size go own.length co own)∧Hid (Own5 123 wr w.heap.size gr rest.length cr rest)∧Hid (Below w.heap.size w wr)) (fun _ j _=>own.length-(intOf j).toNat)
 case atStart=>exact⟨w7.heap.size,0,0,rfl,rfl,by omega,by omega,by omega,W0,O8,R8,B8⟩
 case round=>
  clear W0 O8 R8 B8
  obtain⟨gw,cw,k,rfl,rfl,hk,gwo,gwr,HW,HOw,HRe,HB⟩:=hrel
  have bs:=(zu HB).size
  have d1:=(zu HOw).lt.2
  have d2:=(zu HRe).lt.2
  have d3:=(zu HW).lt
  by_cases t:k<own.length
  ·obtain⟨e0,e1,e2,e3,e4⟩:=(zu HOw).at k t
   have QN:=zh (qtys_next t)
   generalize (el5 own k).2.2.2.1=x3 at *
   have V5:=zh (show(wr.alloc (.cells #[.int .i64 x3] 3)).cell? ⟨wr.heap.size,0,none⟩=some (.int .i64 x3) from by simp)
   have W1:=zh (World.ownsRow.alloc (zu HW) (.cells #[.int .i64 x3] 3))
   have kk:(k:Int)<(own.length:Int):=by omega
   go_wp2_with (first|(at_builtin;refine wp_appI _ rfl _ _ rfl w.heap.size gw k cw (qtys (own.take k)) wr.heap.size x3 rfl rfl (zu W1) (zu V5) (by omega) (by simp;omega) ?_)|go_in)
   intro g9 c9 w9 o9 gr9 loc9
   have W9:=zh (show Ints.Own w9 w.heap.size g9 (k+1) c9 (qtys (own.take (k+1))) from by rw[zu QN];exact o9)
   have O9:=zh (((zu HOw).alloc (.cells #[.int .i64 x3] 3)).kept gr9 (by simp;omega))
   have R9:=zh (((zu HRe).alloc (.cells #[.int .i64 x3] 3)).kept gr9 (by simp;omega))
   have B9:=zh (((zu HB).alloc bs (.cells #[.int .i64 x3] 3)).grown gr9 (by simp;omega) (fun j hj=>by cases hj;exact d3.1))
   have n1:g9≠go:=by
    try simp at loc9
    omega
   have n2:g9≠gr:=by
    try simp at loc9
    omega
   clear o9 gr9 loc9 V5 W1 QN e0 e1 e2 e3 e4
   go_wp2
   go_roundw
   case rel=>exact⟨g9,c9,k+1,rfl,by go_num,by omega,n1,n2,W9,O9,R9,B9⟩
   case measure=>simp[intOf];omega
  ·obtain rfl:k=own.length:=by omega
   rw[List.take_length] at HW
   have GOOD:=good_qtys (zu OP).1 (zu OP).2.1 z own40
   have SL:=shares_len (zu hS) GOOD ⟨q0,qM⟩
   clear GOOD
   go_wp2_with fail
   refine(SShares.sShares wr q gw own.length cw (qtys own) (qtys_len own) (by omega) (zu HW).lt.2 (zu HW).at).mono ?_
   rintro e w5 ⟨ss',ok',gS,cS,st,rfl,oS,b5⟩
   obtain⟨rfl,rfl⟩:=STells.unique (zu hS) st
   have S5:=zh (oS.rebase (base':=w.heap.size) (Nat.le_trans bs oS.lt.1))
   have O5:=zh ((zu HOw).below b5 d1)
   have R5:=zh ((zu HRe).below b5 d2)
   have B5:=zh (next (zu HB) b5)
   have L5:=zh (lit50 123 w5 w.heap.size (zu B5).size)
   have ONE:=(Below.refl w5.heap.size w5).alloc (Nat.le_refl _) (.cells #[] 123)
   have S6:=zh ((zu S5).below ONE (zu S5).lt.2)
   have O6:=zh ((zu O5).below ONE (zu O5).lt.2)
   have R6:=zh ((zu R5).below ONE (zu R5).lt.2)
   have B6:=zh (next (zu B5) ONE)
   have f1:=(zu S5).lt.2
   have f2:=(zu O5).lt.2
   have f3:=(zu R5).lt.2
   have sne:gS≠go∧gS≠gr:=by have:=oS.lt.1;omega
   obtain⟨sn1,sn2⟩:=sne
   have CM:=(zu OP).2.2
   clear st oS b5 ONE HW HOw HRe HB S5 O5 R5 B5
   go_wp2
   generalize w5.alloc (.cells #[] 123)=w6 at *
   generalize hb5:w5.heap.size=b5 at *
   clear hb5
   go_loopw [17,18,19,20] (fun l cv j _ wr=>∃(L:List T5) (c:Int) (gL cL k:Nat),l= .slice (some ⟨gL,0,none⟩) L.length cL∧cv= .int .i64 c∧j= .int .i64 k∧k≤own.length∧L.length≤k∧0≤c∧c≤sumC (own.take k)∧gL≠go∧gL≠gr∧gL≠gS∧Hid (L=keptN own ss k)∧Hid (c=lostN own ss k)∧Hid (Own5 123 wr w.heap.size gL L.length cL L)∧Hid (Ints.Own wr w.heap.size gS ss.length cS ss)∧Hid (Own5 123 wr w.heap.size go own.length co own)∧Hid (Own5 123 wr w.heap.size gr rest.length cr rest)∧Hid (Below w.heap.size w wr)) (fun _ _ j _ _=>own.length-(intOf j).toNat)
   case atStart=>exact⟨[],0,b5,0,0,rfl,rfl,rfl,by omega,by simp,by omega,by simp[sumC],by omega,by omega,by omega,zh rfl,zh rfl,L5,S6,O6,R6,B6⟩
   case round=>
    clear L5 S6 O6 R6 B6 f1 f2 f3 d1 d2 d3 bs
    obtain⟨L,c,gL,cL,k,rfl,rfl,rfl,hk,Lk,c0,c1,n1,n2,n3,HL,HC,HLo,HS,HOw,HRe,HB⟩:=hrel
    have bs:=(zu HB).size
    have d1:=(zu HOw).lt.2
    have d2:=(zu HRe).lt.2
    have d3:=(zu HS).lt.2
    have d4:=(zu HLo).lt
    have ts:=take_sum (zu OP).1 k
    by_cases t:k<own.length
    ·obtain⟨e0,e1,e2,e3,e4⟩:=(zu HOw).at k t
     have es:=(zu HS).at k (by omega)
     have NL:=zh (show keptN own ss (k+1)=L++(if ss.getD k 0=0 then[] else[((el5 own k).1,(el5 own k).2.1,(el5 own k).2.2.1,ss.getD k 0,(el5 own k).2.2.2.2)]) from by rw[zu HL];rfl)
     have NC:=zh (show lostN own ss (k+1)=c+(if ss.getD k 0=0 then(el5 own k).2.2.2.2 else 0) from by rw[zu HC];rfl)
     have SN:=sumC_next t
     have ts1:=take_sum (zu OP).1 (k+1)
     have xp:=(zu OP).1 _ (getD_mem (ps:=own) (i:=k) t)
     unfold Pos at xp
     obtain⟨⟨x31,x32⟩,x41,x42⟩:=xp
     generalize (el5 own k).1=x0 at *
     generalize (el5 own k).2.1=x1 at *
     generalize (el5 own k).2.2.1=x2 at *
     generalize (el5 own k).2.2.2.1=x3 at *
     generalize (el5 own k).2.2.2.2=x4 at *
     generalize ss.getD k 0=s at *
     have kk:(k:Int)<(own.length:Int):=by omega
     have B1:=zh ((zu HB).alloc bs (.cells #[.int .i64 x0,.int .i64 x1,.int .i64 x2,.int .i64 s,.int .i64 x4] 123))
     have L1:=zh ((zu HLo).alloc (.cells #[.int .i64 x0,.int .i64 x1,.int .i64 x2,.int .i64 s,.int .i64 x4] 123))
     have S1:=zh (World.ownsRow.alloc (zu HS) (.cells #[.int .i64 x0,.int .i64 x1,.int .i64 x2,.int .i64 s,.int .i64 x4] 123))
     have O1:=zh ((zu HOw).alloc (.cells #[.int .i64 x0,.int .i64 x1,.int .i64 x2,.int .i64 s,.int .i64 x4] 123))
     have R1:=zh ((zu HRe).alloc (.cells #[.int .i64 x0,.int .i64 x1,.int .i64 x2,.int .i64 s,.int .i64 x4] 123))
     by_cases sz:s=0
     ·subst sz
      have NL:=zh ((zu NL).trans (by rw[if_pos rfl,List.append_nil]))
      have NC:=zh ((zu NC).trans (by rw[if_pos rfl]))
      go_wp2
      go_roundw
      case rel=>exact⟨L,c+x4,gL,cL,k+1,rfl,rfl,by go_num,by omega,by omega,by omega,by omega,n1,n2,n3,zh (zu NL).symm,zh (zu NC).symm,L1,S1,O1,R1,B1⟩
      case measure=>simp[intOf];omega
     ·have sb:(s==0)=false:=by simpa using sz
      have NL:=zh ((zu NL).trans (by rw[if_neg sz]))
      have NC:=zh ((zu NC).trans (by rw[if_neg sz,Int.add_zero]))
      have V5:=zh (show Holds5 ((wr.alloc (.cells #[.int .i64 x0,.int .i64 x1,.int .i64 x2,.int .i64 s,.int .i64 x4] 123)).alloc (.cells #[.int .i64 x0,.int .i64 x1,.int .i64 x2,.int .i64 s,.int .i64 x4] 123)) (wr.heap.size+1) 0 (x0,x1,x2,s,x4) from by unfold Holds5;simp)
      have bs1:=(zu B1).size
      clear sz
      go_wp2_with (first|(at_builtin;refine LotApp.wp_app _ rfl _ _ rfl w.heap.size gL L.length cL L (wr.heap.size+1) x0 x1 x2 s x4 rfl rfl ((zu L1).alloc _) (zu V5) (by omega) (by simp;omega) ?_)|go_in)
      intro g9 c9 w9 o9 gr9 loc9
      have L9:=zh (show Own5 123 w9 w.heap.size g9 (L++[(x0,x1,x2,s,x4)]).length c9 (L++[(x0,x1,x2,s,x4)]) from by rw[show(L++[(x0,x1,x2,s,x4)]).length=L.length+1 by simp];exact o9)
      have S9:=zh (Ints.Own.kept (show Ints.Own ((wr.alloc (.cells #[.int .i64 x0,.int .i64 x1,.int .i64 x2,.int .i64 s,.int .i64 x4] 123)).alloc (.cells #[.int .i64 x0,.int .i64 x1,.int .i64 x2,.int .i64 s,.int .i64 x4] 123)) w.heap.size gS ss.length cS ss from World.ownsRow.alloc (zu S1) (.cells #[.int .i64 x0,.int .i64 x1,.int .i64 x2,.int .i64 s,.int .i64 x4] 123)) gr9 (by simp;omega))
      have O9:=zh (((zu O1).alloc (.cells #[.int .i64 x0,.int .i64 x1,.int .i64 x2,.int .i64 s,.int .i64 x4] 123)).kept gr9 (by simp;omega))
      have R9:=zh (((zu R1).alloc (.cells #[.int .i64 x0,.int .i64 x1,.int .i64 x2,.int .i64 s,.int .i64 x4] 123)).kept gr9 (by simp;omega))
      have B9:=zh (((zu B1).alloc bs1 (.cells #[.int .i64 x0,.int .i64 x1,.int .i64 x2,.int .i64 s,.int .i64 x4] 123)).grown gr9 (by simp;omega) (fun j hj=>by cases hj;exact d4.1))
      have m1:g9≠go:=by
       try simp at loc9
       omega
      have m2:g9≠gr:=by
       try simp at loc9
       omega
      have m3:g9≠gS:=by
       try simp at loc9
       omega
      clear o9 gr9 loc9 V5 L1 S1 O1 R1 B1
      go_wp2
      go_roundw
      case rel=>exact⟨L++[(x0,x1,x2,s,x4)],c,g9,c9,k+1,by rw[show(L++[(x0,x1,x2,s,x4)]).length=L.length+1 by simp],rfl,by go_num,by omega,by simp;omega,by omega,by omega,m1,m2,m3,zh (zu NL).symm,zh (zu NC).symm,L9,S9,O9,R9,B9⟩
      case measure=>simp[intOf];omega
    ·obtain rfl:k=own.length:=by omega
     have EL:=zh (show scaleL own ss=addFirst L c from by unfold scaleL;rw[←zu HL,←zu HC])
     rw[zu EL,add_len] at hR
     have LBD:=lost_bd (zu OP).1 ss own.length (Nat.le_refl _)
     rw[←zu HL,←zu HC,List.take_length] at LBD
     have cM:c≤1000000000000000:=by rw[List.take_length] at c1;omega
     have HL0:=zh (zu HL)
     clear HL HC HS HOw
     have KC:=kept_cost (zu OP).1 ss own.length (Nat.le_refl _)
     rw[←zu HL0] at KC
     cases L with
     |nil=>
      have ER:mergeL (rest.length+0) rest []=R:=(zu hR).symm
      have RL:R.length=rest.length+0:=by rw[←ER,merge_len _ _ _ (by simp)];rfl
      go_wp2_with fail
      refine(sMerge wr gr rest.length cr gL 0 cL rest [] rfl rfl (by omega) (by omega) d2 d4.2 (zu HRe).at (zu HLo).at).mono ?_
      rw[ER]
      rintro e w9 ⟨g9,c9,rfl,o9,b9⟩
      have O9:=zh (o9.rebase (base':=w.heap.size) (Nat.le_trans bs o9.lt.1))
      have B9:=zh (next (zu HB) b9)
      clear o9 b9 KC
      go_wp2
      go_ret2
      rw[show scaleA ps R false false false=R from rfl,show scaleD false false false=0 from rfl,RL]
      exact⟨g9,c9,rfl,zu O9,zu B9⟩
     |cons p r=>
      obtain⟨p0,p1,p2,p3,p4⟩:=p
      have pc:=KC (p0,p1,p2,p3,p4) List.mem_cons_self
      have pc0:0≤p4:=pc.1
      have pc1:p4≤1000000000000000:=pc.2
      have ER:mergeL (rest.length+(r.length+1)) rest ((p0,p1,p2,p3,p4+c)::r)=R:=(zu hR).symm
      have RL:R.length=rest.length+(r.length+1):=by rw[←ER,merge_len _ _ _ (by simp)];simp
      have rl:r.length+1≤40:=by have:=Lk;simp at this;omega
      have HL2:=zh (show Own5 123 wr w.heap.size gL (r.length+1) cL ((p0,p1,p2,p3,p4)::r) from zu HLo)
      obtain⟨e0,e1,e2,e3,e4⟩:=(zu HL2).at 0 (by simp)
      have e4:wr.cell? ⟨gL,4,none⟩=some (.int .i64 p4):=e4
      have r4:wr.frozen? ⟨gL,4,none⟩=false:=(zu HL2).free 4
      have S4:=(zu HL2).set4 0 (p4+c)
      have O8:=zh (show Own5 123 (wr.setCell ⟨gL,4,none⟩ (.int .i64 (p4+c))) w.heap.size gL (r.length+1) cL ((p0,p1,p2,p3,p4+c)::r) from S4.1)
      have R8:=zh (show Own5 123 (wr.setCell ⟨gL,4,none⟩ (.int .i64 (p4+c))) w.heap.size gr rest.length cr rest from(zu HRe).kept S4.2 (by simp;omega))
      have B8:=zh (show Below w.heap.size w (wr.setCell ⟨gL,4,none⟩ (.int .i64 (p4+c))) from(zu HB).grown S4.2 bs (fun j hj=>by cases hj;exact d4.1))
      have LE:((p0,p1,p2,p3,p4)::r).length=r.length+1:=rfl
      rw[LE]
      clear S4 KC pc HLo HRe HL2 e0 e1 e2 e3 LE Lk LBD
      go_wp2_with fail
      generalize wr.setCell ⟨gL,4,none⟩ (.int .i64 (p4+c))=u8 at *
      refine(sMerge u8 gr rest.length cr gL (r.length+1) cL rest ((p0,p1,p2,p3,p4+c)::r) rfl rfl (by omega) (by omega) (zu R8).lt.2 (zu O8).lt.2 (zu R8).at (zu O8).at).mono ?_
      rw[ER]
      rintro e w9 ⟨g9,c9,rfl,o9,b9⟩
      have O9:=zh (o9.rebase (base':=w.heap.size) (Nat.le_trans (zu B8).size o9.lt.1))
      have B9:=zh (next (zu B8) b9)
      clear o9 b9
      go_wp2
      go_ret2
      rw[show scaleA ps R false false false=R from rfl,show scaleD false false false=0 from rfl,RL]
      exact⟨g9,c9,rfl,zu O9,zu B9⟩
end SScale
namespace OrderEx
open Quota Order Parts
def leB(t:Int)(xs:List Int)(a b:Nat):Bool:=decide (R t xs b<R t xs a∨(R t xs a=R t xs b∧a≤b))
theorem order_ex(t:Int)(xs:List Int)(n:Nat):∃L,IsOrder t xs n L:=by
 refine⟨(List.range n).mergeSort (leB t xs),List.mergeSort_perm _ _,?_⟩
 have h1:((List.range n).mergeSort (leB t xs)).Pairwise (fun a b=>leB t xs a b=true):=List.pairwise_mergeSort (fun a b c h k=>by
  unfold leB at *
  simp only[decide_eq_true_eq] at *
  omega) (fun a b=>by
  unfold leB
  simp only[Bool.or_eq_true,decide_eq_true_eq]
  omega) _
 have h2:((List.range n).mergeSort (leB t xs)).Pairwise (fun a b=>a≠b):=(List.mergeSort_perm _ _).nodup_iff.2 List.nodup_range
 rw[List.pairwise_iff_getElem] at h1 h2⊢
 intro i j hi hj hij
 have h:=h1 i j hi hj hij
 have k:=h2 i j hi hj hij
 generalize ((List.range n).mergeSort (leB t xs))[i]=a at *
 generalize ((List.range n).mergeSort (leB t xs))[j]=b at *
 unfold leB at h
 simp only[decide_eq_true_eq] at h
 unfold Ahead
 omega
theorem stells_ex(t:Int)(xs:List Int):∃ps ok,STells t xs ps ok:=by
 by_cases h:Weigh.Good xs∧Tot t
 ·obtain⟨L,hL⟩:=order_ex t xs xs.length
  obtain⟨M,h1,h2⟩:=missing_nat t xs h.2 h.1
  exact⟨_,true,.inl ⟨h.1,h.2,rfl,L,M,hL,h1,h2,rfl⟩⟩
 ·exact⟨[],false,.inr ⟨h,rfl,rfl⟩⟩
end OrderEx
namespace LotMore
open Tup5 Lots Takes Scale
theorem merge_part_l{f:T5→Bool}:∀(n:Nat) (A B:List T5),A.length+B.length≤n→(∀p∈B,f p=false)→(mergeL n A B).filter f=A.filter f
 |0,[],[],_,_=>rfl
 |0,x::A,_,h,_=>by simp at h
 |0,[],y::B,h,_=>by simp at h
 |n+1,[],B,h,hB=>by rw[merge_right _ _ (by simpa using h),filter_none hB];rfl
 |n+1,x::A,[],h,hB=>by rw[merge_left _ _ (by simpa using h)]
 |n+1,x::A,y::B,h,hB=>by
  by_cases e:Bef x y
  ·rw[merge_yes e,List.filter_cons,List.filter_cons,merge_part_l n A (y::B) (by simp at h⊢;omega) hB]
  ·rw[merge_no e,List.filter_cons_of_neg (by rw[hB y List.mem_cons_self];simp),merge_part_l n (x::A) B (by simp at h⊢;omega) (fun p hp=>hB p (List.mem_cons_of_mem _ hp))]
theorem merge_part_r{f:T5→Bool}:∀(n:Nat) (A B:List T5),A.length+B.length≤n→(∀p∈A,f p=false)→(mergeL n A B).filter f=B.filter f
 |0,[],[],_,_=>rfl
 |0,x::A,_,h,_=>by simp at h
 |0,[],y::B,h,_=>by simp at h
 |n+1,[],B,h,hB=>by rw[merge_right _ _ (by simpa using h)]
 |n+1,x::A,[],h,hB=>by rw[merge_left _ _ (by simpa using h),filter_none hB];rfl
 |n+1,x::A,y::B,h,hA=>by
  by_cases e:Bef x y
  ·rw[merge_yes e,List.filter_cons_of_neg (by rw[hA x List.mem_cons_self];simp),merge_part_r n A (y::B) (by simp at h⊢;omega) (fun p hp=>hA p (List.mem_cons_of_mem _ hp))]
  ·rw[merge_no e,List.filter_cons,List.filter_cons,merge_part_r n (x::A) B (by simp at h⊢;omega) hA]
theorem key_rest{ps:List T5}{a i:Int}{p:T5}(h:p∈restL ps a i):¬(p.1=a∧p.2.1=i):=by
 have:=(List.mem_filter.1 h).2
 intro e
 rw[decide_eq_true e] at this
 simp at this
theorem own_of_rest{a i b j:Int}(h:¬(b=a∧j=i))(ps:List T5):ownL (restL ps a i) b j=ownL ps b j:=by
 unfold ownL restL
 rw[List.filter_filter]
 apply List.filter_congr
 intro p _
 by_cases e:p.1=b∧p.2.1=j
 ·have:¬(p.1=a∧p.2.1=i):=fun k=>h ⟨e.1.symm.trans k.1,e.2.symm.trans k.2⟩
  simp[e,this,h]
 ·simp[e]
structure Fits(ps L:List T5)(a i:Int):Prop where
 key:∀p∈L,p.1=a∧p.2.1=i
 one:∀p∈L,One p
 asc:L.Pairwise Bef
 len:L.length≤(ownL ps a i).length
 qty:sumQ L≤1000000000000000
 cost:sumC L≤1000000000000000
theorem Fits.own{ps L:List T5}{a i:Int}{n:Nat}(f:Fits ps L a i)(hn:(restL ps a i).length+L.length≤n):ownL (mergeL n (restL ps a i) L) a i=L:=by
 unfold ownL
 rw[merge_part_r n _ _ hn (fun p hp=>decide_eq_false (key_rest hp)),filter_all (fun p hp=>decide_eq_true (f.key p hp))]
theorem Fits.other{ps L:List T5}{a i b j:Int}{n:Nat}(f:Fits ps L a i)(hn:(restL ps a i).length+L.length≤n)(h:¬(b=a∧j=i)):ownL (mergeL n (restL ps a i) L) b j=ownL ps b j:=by
 rw[←own_of_rest h ps]
 unfold ownL
 exact merge_part_l n _ _ hn (fun p hp=>decide_eq_false fun e=>h ⟨e.1.symm.trans (f.key p hp).1,e.2.symm.trans (f.key p hp).2⟩)
section
variable {way q:Int} {own:List T5}
end
end LotMore
namespace ICmp
open Ints Weigh Quota Order
def cmp(x y:Int):Int:=if x<y then-1 else if y<x then 1 else 0
theorem iCompare(x y:Int)(w:World):Calls Tryz.prog 189 #[.int .i64 x,.int .i64 y] w fun e w'=>e= .returned (.int .i64 (cmp x y))∧w'=w:=by
 by_cases h1:x<y
 ·have e:Hid (cmp x y= -1):=by unfold Hid cmp;rw[if_pos h1]
  go_enter Tryz.func189,Tryz.ntmps189
  go_wp2
  go_ret
  exact⟨by rw[zu e];rfl,rfl⟩
 ·by_cases h2:y<x
  ·have e:Hid (cmp x y=1):=by unfold Hid cmp;rw[if_neg h1,if_pos h2]
   go_enter Tryz.func189,Tryz.ntmps189
   go_wp2
   go_ret
   exact⟨by rw[zu e];rfl,rfl⟩
  ·have e:Hid (cmp x y=0):=by unfold Hid cmp;rw[if_neg h1,if_neg h2]
   go_enter Tryz.func189,Tryz.ntmps189
   go_wp2
   go_ret
   exact⟨by rw[zu e];rfl,rfl⟩
theorem iOr(x y:Int)(g:Nat)(w:World)(h0:w.cell? ⟨g,0,none⟩=some (.int .i64 x))(h1:w.cell? ⟨g,1,none⟩=some (.int .i64 y)):
  Calls Tryz.prog 188 #[.slice (some ⟨g,0,none⟩) 2 2] w fun e w'=>e= .returned (.int .i64 (if x=0 then y else x))∧w'=w:=by
 go_enter Tryz.func188,Tryz.ntmps188
 go_wp2
 go_loop [8] (fun i=>∃(k:Nat),k≤2∧i= .int .i64 k∧(1≤k→x=0)∧(2≤k→y=0)) (fun i=>2-(intOf i).toNat)
 case atStart=>exact⟨0,by omega,rfl,by omega,by omega⟩
 case round=>
  obtain⟨k,hk,rfl,p1,p2⟩:=hrel
  rcases(show k=0∨k=1∨k=2 by omega) with rfl|rfl|rfl
  ·clear p1 p2
   by_cases z:x=0
   ·subst z
    go_wp2
    go_round
    case rel=>exact⟨1,by omega,rfl,by simp,by omega⟩
    case measure=>simp[intOf]
   ·have zb:(x !=0)=true:=by rw[bne_iff_ne];exact z
    go_wp2
    go_ret
    exact⟨rfl,rfl⟩
  ·obtain rfl:=p1 (by omega)
   clear p1 p2
   by_cases z:y=0
   ·subst z
    go_wp2
    go_round
    case rel=>exact⟨2,by omega,rfl,by simp,by simp⟩
    case measure=>simp[intOf]
   ·have zb:(y !=0)=true:=by rw[bne_iff_ne];exact z
    go_wp2
    go_ret
    exact⟨rfl,rfl⟩
  ·obtain rfl:=p1 (by omega)
   obtain rfl:=p2 (by omega)
   clear p1 p2
   go_wp2
   go_ret
   exact⟨rfl,rfl⟩
theorem iOr'(x y z:Int)(g:Nat)(w:World)(hz:Hid (z=if x=0 then y else x))(h0:w.cell? ⟨g,0,none⟩=some (.int .i64 x))(h1:w.cell? ⟨g,1,none⟩=some (.int .i64 y)):
  Calls Tryz.prog 188 #[.slice (some ⟨g,0,none⟩) 2 2] w fun e w'=>e= .returned (.int .i64 z)∧w'=w:=by
 rw[zu hz]
 exact iOr x y g w h0 h1
theorem iCloses(W:World)(a b n g bx:Nat)(ra rb:Int)(ha:a<n)(hb:b<n)(h40:n≤1048576)(hx:W.cell? ⟨bx,0,none⟩=some (.slice (some ⟨g,0,none⟩) n n))(hra:W.cell? ⟨g,a,none⟩=some (.int .i64 ra))(hrb:W.cell? ⟨g,b,none⟩=some (.int .i64 rb)):
  Calls Tryz.prog 199 #[.int .i64 a,.int .i64 b,.pointer (some ⟨bx,0,none⟩)] W fun e w'=>e= .returned (.int .i64 (if cmp rb ra=0 then cmp a b else cmp rb ra))∧∃q os,w'=Go.Sort.grow (W.drewN q) os:=by
 have i1:(0:Int)≤(a:Int):=by omega
 have i2:(a:Int)<(n:Int):=by omega
 have i3:(0:Int)≤(b:Int):=by omega
 have i4:(b:Int)<(n:Int):=by omega
 obtain⟨z,hz⟩:∃z,z=if cmp rb ra=0 then cmp a b else cmp rb ra:=⟨_,rfl⟩
 rw[←hz]
 have HZ:=zh hz
 clear hz
 go_enter Tryz.func199,Tryz.ntmps199
 go_wp2_with fail
 go_region_held3 (fun w'=>w'.cell? ⟨bx,0,none⟩=some (.slice (some ⟨g,0,none⟩) n n)∧w'.cell? ⟨g,a,none⟩=some (.int .i64 ra)∧w'.cell? ⟨g,b,none⟩=some (.int .i64 rb)) (go_keep)
  (first|(go_at_call 189;refine(iCompare _ _ _).mono ?_;rintro e w' ⟨rfl,rfl⟩)|(go_at_call 188;refine(iOr' _ _ z _ _ HZ (by simp) (by simp)).mono ?_;rintro e w' ⟨rfl,rfl⟩))
 all_goals go_wp2
 all_goals(go_ret;exact⟨rfl,1,#[_],by rw[Go.Sort.alloc_eq_grow];rfl⟩)
end ICmp
namespace LegApp
open Bals Triples
theorem info2:(Tryz.prog.info? 80).map (fun i=>(i.zero,i.size,i.bytes))=some (some (.agg #[.int .i64 0,.int .i64 0,.int .i64 0]),3,24):=by kernel_rfl
theorem wp_app(u:World){ops:Array Oper}{rest:List Oper}{o:Oper}{a:Act}{Q:Exit→Act→World→Prop}(hgd:o.guard=none)(s x:Operand)
  (ho:o.op= .call {callee:= .builtin .append,args:= #[s,x],argTypes:= #[66,66]})(base g n cap:Nat)(ps:List T3)(vb:Nat)(p q r:Int)
  (hs:a.eval s= .slice (some ⟨g,0,none⟩) n cap)(hx:a.eval x= .slice (some ⟨vb,0,none⟩) 1 1)(hown:Own3 80 u base g n cap ps)(hv:Holds3 u vb 0 (p,q,r))(hn:n≤1048576)(hb:base≤u.heap.size)
  (h:∀g' c' w',Own3 80 w' base g' (n+1) c' (ps++[(p,q,r)])→u.grownBy w' (some g)→(g'=g∨g'=u.heap.size)→wpList Tryz.prog ops Q rest (a.put o.dst (.slice (some ⟨g',0,none⟩) (n+1) c')) w'):wpList Tryz.prog ops Q (o::rest) a u:=by
 obtain⟨i0,hi,hz0,hz1,hz2⟩:=info_parts info2
 have hat:At3 u vb [(p,q,r)]:=by
  intro i hi
  obtain rfl:i=0:=by simpa using hi
  exact hv
 refine wpList_append_own_at u hgd s x 66 ho base 80 i0 (.agg #[.int .i64 0,.int .i64 0,.int .i64 0]) 3 24 Tryz.underlying66 hi hz0 hz1 hz2 rfl (by decide) _ n _ hs hown ⟨vb,0,none⟩ 1 1 (flat3 [(p,q,r)]) hx rfl hat.cells (fun u hu=>flat3_one u _ hu) (by unfold maxLen;omega) (by omega) hb ?_
 intro v' w' own' gr' nil' loc'
 obtain⟨g',c',rfl,o'⟩:=own3_of_row (n':=n+1) (ps:=ps++[(p,q,r)]) own' rfl (by rw[flat3_append]) (by rw[nil'];simp)
 exact h g' c' w' o' gr' (by simpa[Value.ownBlock] using loc')
end LegApp
namespace IRead9
open BMem Bks IRead
open Lots (Says says_of NoOk)
theorem iIssuer(w:World)(x:Bx)(no:Int)(t:Bool)(h:Rd w x)(hr:Chart.Right 20 4 x.b.ac)(ht:Says t (kindOf x.b.ac no=2)):
  Calls Tryz.prog 78 #[.agg #[.slice (some ⟨x.ga,0,none⟩) x.b.ac.length x.ca,.slice (some ⟨x.gi,0,none⟩) x.b.ic.length x.ci,.slice (some ⟨x.gb,0,none⟩) x.b.bs.length x.cb,.slice (some ⟨x.gl,0,none⟩) x.b.ls.length x.cl,.slice (some ⟨x.gt,0,none⟩) x.b.ts.length x.ct,.int .i64 x.b.lot],.int .i64 no] w fun e w'=>e= .returned (.bool t)∧Below w.heap.size w w':=by
 have H:=zh h
 have R:=zh hr
 have T:=zh ht
 have na:=h.na
 have la:=h.la
 clear h hr ht
 go_enter Tryz.func78,Tryz.ntmps78
 go_wp2_with fail
 refine(AccountIKind.iKind _ x.ga _ x.ca x.b.ac no rfl na (by simp;omega) ((zu H).alloc _).ra).mono ?_
 rintro e w1 ⟨r,hk,rfl,b1⟩
 have hd:(r==2)=t:=beq_of (by rw[kind_is (zu R) hk];exact zu T)
 have B1:=zh (((Below.refl w.heap.size w).alloc (Nat.le_refl _) _).trans (b1.mono (by simp)))
 clear b1 hk
 go_wp2
 go_ret
 exact⟨rfl,zu B1⟩
end IRead9
namespace Concat3
open Triples
open Bals (T3)
open LegApp (info2)
def OwnV(e:TypeId)(w:World)(base:Nat)(v:Value)(ps:List T3):Prop:=w.ownsRow base e 3 v ps.length (flat3 ps)
theorem OwnV.cases{e:TypeId}{w:World}{base:Nat}{v:Value}{ps:List T3}(h:OwnV e w base v ps):(v= .slice none 0 0∧ps=[])∨∃g c,v= .slice (some ⟨g,0,none⟩) ps.length c∧Own3 e w base g ps.length c ps:=by
 rcases h.2 with⟨h1,h2⟩|⟨g,c,cur,h1,h2⟩
 ·exact .inl ⟨h1,List.eq_nil_of_length_eq_zero h2⟩
 ·refine .inr ⟨g,c,h1,?_⟩
  have h':w.ownsRow base e 3 v ps.length (flat3 ps):=h
  rw[h1] at h'
  exact h'
theorem OwnV.of{e:TypeId}{w:World}{base g n c:Nat}{ps:List T3}(h:Own3 e w base g n c ps):OwnV e w base (.slice (some ⟨g,0,none⟩) n c) ps:=by
 unfold OwnV
 rw[h.len]
 exact h
theorem OwnV.nil(e:TypeId)(w:World)(base:Nat):OwnV e w base (.slice none 0 0) []:=⟨rfl,.inl ⟨rfl,rfl⟩⟩
theorem OwnV.lt{e:TypeId}{w:World}{base:Nat}{v:Value}{ps:List T3}(h:OwnV e w base v ps):∀g,v.ownBlock=some g→base≤g∧g<w.heap.size:=fun g hg=>World.ownsRow.lt h g hg
theorem OwnV.below{e:TypeId}{w w':World}{base B:Nat}{v:Value}{ps:List T3}(h:OwnV e w base v ps)(k:Below B w w')(hB:∀g,v.ownBlock=some g→g<B):OwnV e w' base v ps:=by
 rcases h.cases with⟨rfl,rfl⟩|⟨g,c,rfl,o⟩
 ·exact OwnV.nil _ _ _
 ·exact OwnV.of (o.below k (hB g rfl))
theorem OwnV.kept{e:TypeId}{w w':World}{base:Nat}{row:Option Nat}{v:Value}{ps:List T3}(h:OwnV e w base v ps)(k:w.grownBy w' row)(hne:∀g,v.ownBlock=some g→row≠some g):OwnV e w' base v ps:=by
 rcases h.cases with⟨rfl,rfl⟩|⟨g,c,rfl,o⟩
 ·exact OwnV.nil _ _ _
 ·exact OwnV.of (o.kept k (fun e=>hne g rfl e.symm))
theorem OwnV.rebase{e:TypeId}{w:World}{base base':Nat}{v:Value}{ps:List T3}(h:OwnV e w base v ps)(hb:base'≤base):OwnV e w base' v ps:=by
 rcases h.cases with⟨rfl,rfl⟩|⟨g,c,rfl,o⟩
 ·exact OwnV.nil _ _ _
 ·exact OwnV.of (o.rebase (Nat.le_trans hb o.lt.1))
end Concat3
end Go.Proofs.YtnmeiiaipacplaaGreat
