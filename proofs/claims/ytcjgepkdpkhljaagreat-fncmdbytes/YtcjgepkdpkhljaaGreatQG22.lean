/- Lemmas. -/
import Derived.Test.YtcjgepkdpkhljaaGreatQG21
open Go.ChangeShapes Go.WideShapes Go.ChangeAt Go.RowKit
set_option linter.unusedVariables false
set_option linter.unusedSimpArgs false
set_option maxRecDepth 100000
set_option maxHeartbeats 32000000
namespace Go.Proofs.YtcjgepkdpkhljaaGreat
namespace SNetL
open BMem Bks ILists IBalsFit Ans Trd Net
open Lots (Says says_of NoOk)
open Bals (T3 el3 val ListOf putL Amt)
open Tup8 (T8 el8)
open Triples (Own3 At3 Holds3)
open PostMore (sumK)
theorem at_take{w:World}{g:Nat}{xs:List Int}(h:Ints.At w g xs)(k:Nat):Ints.At w g (xs.take k):=by
 intro i hi
 have h1:i<k:=by simp at hi;omega
 have h2:i<xs.length:=by simp at hi;omega
 rw[Ints.getD_take xs k i h1]
 exact h i h2
theorem take_nos{xs:List Int}{k:Nat}(h:k<xs.length):xs.take (k+1)=xs.take k++[xs.getD k 0]:=by
 rw[List.take_succ_eq_append_getElem h]
 simp[List.getD,h]
theorem open_next{ts:List T8}{xs:List Int}{k:Nat}(h:k<xs.length)(a:AllOpen ts (xs.take k))(o:∃n,IsAt ts (xs.getD k 0) n∧(el8 ts n).2.2.2.2.2.2.2=1):AllOpen ts (xs.take (k+1)):=by
 intro no hn
 rw[take_nos h] at hn
 rcases List.mem_append.1 hn with hn|hn
 ·exact a no hn
 ·rw[List.mem_singleton.1 hn];exact o
theorem nodup_next{xs:List Int}{k:Nat}(h:k<xs.length)(a:(xs.take k).Nodup)(o:xs.getD k 0∉xs.take k):(xs.take (k+1)).Nodup:=by
 rw[take_nos h]
 refine List.nodup_append.2 ⟨a,by simp,?_⟩
 intro x hx y hy e
 rw[List.mem_singleton.1 hy] at e
 subst e
 exact o hx
theorem has_dup{xs:List Int}{k:Nat}(h:k<xs.length)(o:xs.getD k 0∈xs.take k):¬xs.Nodup:=by
 intro n
 have n':(xs.take (k+1)).Nodup:=n.sublist (List.take_sublist _ _)
 rw[take_nos h] at n'
 exact(List.nodup_append.1 n').2.2 _ o _ (by simp) rfl
theorem mem_nos{xs:List Int}{k:Nat}(h:k<xs.length):xs.getD k 0∈xs:=by simp[List.getD,h]
theorem sNetLegs(w:World)(x:Bx)(gN capN:Nat)(nos:List Int)(hr:Rd w x)(hN:nos.length≤1048576)(hc:nos.length≤capN)(hc2:capN≤9223372036854775807)(lN:gN<w.heap.size)(aN:Ints.At w gN nos):
  Calls Tryz.prog 85 #[.agg #[.slice (some ⟨x.ga,0,none⟩) x.b.ac.length x.ca,.slice (some ⟨x.gi,0,none⟩) x.b.ic.length x.ci,.slice (some ⟨x.gb,0,none⟩) x.b.bs.length x.cb,.slice (some ⟨x.gl,0,none⟩) x.b.ls.length x.cl,.slice (some ⟨x.gt,0,none⟩) x.b.ts.length x.ct,.int .i64 x.b.lot],.slice (some ⟨gN,0,none⟩) nos.length capN] w fun e w'=>∃(qs:List T3) (ok:Bool) (g c:Nat),IsNetL x.b nos qs ok∧qs.length≤120∧e= .returned (.tuple #[.slice (some ⟨g,0,none⟩) qs.length c,.bool ok])∧Own3 181 w' w.heap.size g qs.length c qs∧Below w.heap.size w w':=by
 obtain⟨b0,h0⟩:=says_of (Ok x.b)
 have H0:=zh h0
 have nt:=hr.nt
 have S0:=zh ((St.start hr 44).step (one_more (w.alloc (.cells #[.slice (some ⟨x.ga,0,none⟩) x.b.ac.length x.ca,.slice (some ⟨x.gi,0,none⟩) x.b.ic.length x.ci,.slice (some ⟨x.gb,0,none⟩) x.b.bs.length x.cb,.slice (some ⟨x.gl,0,none⟩) x.b.ls.length x.cl,.slice (some ⟨x.gt,0,none⟩) x.b.ts.length x.ct,.int .i64 x.b.lot] 44)) (.cells #[] 181)))
 have N0:=zh (show Own3 181 ((w.alloc (.cells #[.slice (some ⟨x.ga,0,none⟩) x.b.ac.length x.ca,.slice (some ⟨x.gi,0,none⟩) x.b.ic.length x.ci,.slice (some ⟨x.gb,0,none⟩) x.b.bs.length x.cb,.slice (some ⟨x.gl,0,none⟩) x.b.ls.length x.cl,.slice (some ⟨x.gt,0,none⟩) x.b.ts.length x.ct,.int .i64 x.b.lot] 44)).alloc (.cells #[] 181)) w.heap.size (w.heap.size+1) 0 0 [] from by
  have:=Triples.lit30 181 (w.alloc (.cells #[.slice (some ⟨x.ga,0,none⟩) x.b.ac.length x.ca,.slice (some ⟨x.gi,0,none⟩) x.b.ic.length x.ci,.slice (some ⟨x.gb,0,none⟩) x.b.bs.length x.cb,.slice (some ⟨x.gl,0,none⟩) x.b.ls.length x.cl,.slice (some ⟨x.gt,0,none⟩) x.b.ts.length x.ct,.int .i64 x.b.lot] 44)) w.heap.size (by simp)
  simpa using this)
 have A0:=zh (show Ints.At ((w.alloc (.cells #[.slice (some ⟨x.ga,0,none⟩) x.b.ac.length x.ca,.slice (some ⟨x.gi,0,none⟩) x.b.ic.length x.ci,.slice (some ⟨x.gb,0,none⟩) x.b.bs.length x.cb,.slice (some ⟨x.gl,0,none⟩) x.b.ls.length x.cl,.slice (some ⟨x.gt,0,none⟩) x.b.ts.length x.ct,.int .i64 x.b.lot] 44)).alloc (.cells #[] 181)) gN nos from aN.below (((Below.refl w.heap.size w).alloc (Nat.le_refl _) _).alloc (by simp) _) lN)
 clear h0 hr aN
 go_enter Tryz.func85,Tryz.ntmps85
 go_wp2_with fail
 refine(SBooksOk.sBooksOk _ x b0 (zu S0).r (zu H0)).mono ?_
 rintro e w1 ⟨rfl,bb⟩
 have S1:=zh ((zu S0).step bb)
 have N1:=zh ((zu N0).below bb (zu N0).lt.2)
 have A1:=zh ((zu A0).below bb (by simp;omega))
 clear bb S0 N0 A0
 cases b0
 ·have F:=zh (show IsNetL x.b nos [] false from .inr ⟨fun k=>(zu H0).no k.1,rfl,rfl⟩)
  go_wp2
  go_ret2
  exact⟨[],false,w.heap.size+1,0,zu F,by simp,rfl,zu N1,(zu S1).b⟩
 have OK:=zh (zu H0).yes
 clear H0
 by_cases n30:nos.length≤30
 rotate_left
 ·have F:=zh (show IsNetL x.b nos [] false from .inr ⟨fun k=>n30 k.2.1,rfl,rfl⟩)
  have nb:decide ((nos.length:Int)>30)=true:=decide_eq_true (by omega)
  clear n30
  go_wp2
  go_ret2
  exact⟨[],false,w.heap.size+1,0,zu F,by simp,rfl,zu N1,(zu S1).b⟩
 have nb:decide ((nos.length:Int)>30)=false:=decide_eq_false (by omega)
 have S2:=zh ((zu S1).step (one_more w1 (.cells #[] 184)))
 have N2:=zh ((zu N1).alloc (.cells #[] 184))
 have A2:=zh ((zu A1).below (one_more w1 (.cells #[] 184)) (by have:=(zu S1).s;omega))
 have P2:=zh (Triples.lit30 184 w1 w.heap.size (zu S1).b.size)
 have L0:=zh (show ListOf (sumK (legsOf x.b.ts (nos.take 0))) [] from list_nil _ (fun a i=>rfl))
 go_wp2
 generalize hw2:w1.alloc (.cells #[] 184)=w2 at *
 have z1:=(zu S1).s
 have z2:w1.heap.size<w2.heap.size:=by rw[←hw2];simp
 clear hw2 S1 N1 A1
 go_loopw [7,8] (fun s i wr=>∃(ps:List T3) (gs cs k:Nat),s= .slice (some ⟨gs,0,none⟩) ps.length cs∧i= .int .i64 k∧k≤nos.length∧ps.length≤4*k∧Hid (ListOf (sumK (legsOf x.b.ts (nos.take k))) ps)∧Hid (AllOpen x.b.ts (nos.take k))∧Hid ((nos.take k).Nodup)∧Hid (Own3 184 wr w.heap.size gs ps.length cs ps)∧Hid (St w wr x)∧Hid (Below w2.heap.size w2 wr)) (fun _ i _=>nos.length-(intOf i).toNat)
 case atStart=>exact⟨[],w1.heap.size,0,0,rfl,rfl,by omega,by simp,L0,zh (fun no hn=>by simp at hn),zh (by simp),P2,S2,zh (Below.refl _ _)⟩
 case round=>
  clear P2 L0
  obtain⟨ps,gs,cs,k,rfl,rfl,hk,pl,HL,HA,HD,HP,HS,HB⟩:=hrel
  by_cases t:k<nos.length
  ·have C:=(zu HS).c
   have AW:=zh ((zu A2).below (zu HB) (by omega))
   obtain⟨no,hno⟩:∃no,Hid (nos.getD k 0=no):=⟨_,rfl⟩
   have cN:wr.cell? ⟨gN,k,none⟩=some (.int .i64 no):=by rw[←zu hno];exact(zu AW) k t
   have K4:=And.intro C.c0 (And.intro C.c1 (And.intro C.c2 (And.intro C.c3 (And.intro C.c4 (And.intro C.c5 cN)))))
   clear C
   go_wp2_with fail
   go_region_held3 (fun w'=>w'.cell? ⟨w.heap.size,0,none⟩=some (.slice (some ⟨x.ga,0,none⟩) x.b.ac.length x.ca)∧w'.cell? ⟨w.heap.size,1,none⟩=some (.slice (some ⟨x.gi,0,none⟩) x.b.ic.length x.ci)∧w'.cell? ⟨w.heap.size,2,none⟩=some (.slice (some ⟨x.gb,0,none⟩) x.b.bs.length x.cb)∧w'.cell? ⟨w.heap.size,3,none⟩=some (.slice (some ⟨x.gl,0,none⟩) x.b.ls.length x.cl)∧w'.cell? ⟨w.heap.size,4,none⟩=some (.slice (some ⟨x.gt,0,none⟩) x.b.ts.length x.ct)∧w'.cell? ⟨w.heap.size,5,none⟩=some (.int .i64 x.b.lot)∧w'.cell? ⟨gN,k,none⟩=some (.int .i64 no)) (first|with_reducible exact K4|with_reducible exact K5|exact K4)
    (first|(go_at_call 82;refine(STrd.sOpenAt wr.drew x no ((zu HS).r.below (Below.refl _ _).drew)).mono ?_;rintro e u1 ⟨r,c,ho,rfl,bb⟩;have bW:=zh (show Below wr.heap.size wr u1 from ILotsFit.below_of_drew bb);have S3:=zh ((zu HS).step (zu bW));have A3:=zh ((zu AW).below (zu bW) (by have:=(zu HB).size;omega));have P3:=zh ((zu HP).below (zu bW) (zu HP).lt.2);have HB3:=zh ((zu HB).trans ((zu bW).mono (zu HB).size));have HO:=zh ho;have K5:=And.intro (zu S3).c.c0 (And.intro (zu S3).c.c1 (And.intro (zu S3).c.c2 (And.intro (zu S3).c.c3 (And.intro (zu S3).c.c4 (And.intro (zu S3).c.c5 (((zu bW).cell (p:=⟨gN,k,none⟩) (show gN<wr.heap.size by have:=(zu HB).size;omega)).trans cN))))));clear bb ho))
   clear K4 K5
   obtain⟨c4',cN'⟩:u1.cell? ⟨w.heap.size,4,none⟩=some (.slice (some ⟨x.gt,0,none⟩) x.b.ts.length x.ct)∧u1.cell? ⟨gN,k,none⟩=some (.int .i64 no):=⟨(zu S3).c.c4,by rw[←zu hno];exact(zu A3) k t⟩
   rcases zu HO with⟨hn,rfl,rfl⟩|⟨n,hn,rfl,⟨hst,rfl⟩|⟨hst,rfl⟩⟩
   ·have F:=zh (show IsNetL x.b nos [] false from .inr ⟨fun kk=>by
     obtain⟨m,hm,_⟩:=kk.2.2.1 _ (mem_nos t)
     rw[zu hno] at hm
     exact hm.not hn,rfl,rfl⟩)
    have N3:=zh ((zu N2).below (zu HB3) (zu N2).lt.2)
    clear hn HO
    go_wp2_with fail
    go_quiet (fail)
    go_wp2
    go_ret2
    exact⟨[],false,w.heap.size+1,0,zu F,by simp,rfl,zu N3,Tup8.below_drewN (zu S3).b _⟩
   ·have F:=zh (show IsNetL x.b nos [] false from .inr ⟨fun kk=>by
     obtain⟨m,hm,hs⟩:=kk.2.2.1 _ (mem_nos t)
     rw[zu hno] at hm
     rw[hm.same hn] at hs
     exact hst hs,rfl,rfl⟩)
    have N3:=zh ((zu N2).below (zu HB3) (zu N2).lt.2)
    clear hn HO hst
    go_wp2_with fail
    go_quiet (fail)
    go_wp2
    go_ret2
    exact⟨[],false,w.heap.size+1,0,zu F,by simp,rfl,zu N3,Tup8.below_drewN (zu S3).b _⟩
   ·obtain⟨b1,h1⟩:=Bals.says_of (no∈nos.take k)
    have H1:=zh h1
    have KK:=zh hn
    have HST:=zh hst
    clear hn HO hst h1
    have ng:gN<u1.heap.size:=by have:=(zu HB3).size;omega
    have C0:∀n:Quieter.Near u1,n.u.cell? ⟨gN,k,none⟩=some (.int .i64 no):=fun n=>(n.b.cell (p:=⟨gN,k,none⟩) ng).trans cN'
    have near:=Quieter.near_is u1
    go_wp2_with fail
    refine Quieter.quiet_near (by kernel_rfl) (by kernel_rfl) ?_
    repeat(go_big_quiet_step (first
     |(go_at_call 102
       rename_i nn
       refine(Post.sHas nn.u gN k capN (nos.take k) no b1 (by simp;omega) (by omega) (at_take ((zu A3).below nn.b ng) k) (zu H1)).mono ?_
       rintro e u6 ⟨rfl,rfl⟩
       exact⟨rfl,⟨_,nn.b⟩,rfl⟩)))
    refine wpQuiet_nil ?_
    rintro u2 ⟨⟨v2,c9⟩,e9⟩
    have b9:Below u1.heap.size u1 u2:=by rw[e9];exact c9
    clear e9 c9 v2
    have S4:=zh ((zu S3).step b9)
    have HB4:=zh ((zu HB3).trans (b9.mono (zu HB3).size))
    have P4:=zh ((zu P3).below b9 (zu P3).lt.2)
    clear near C0 b9 S3 P3 HB3 bW
    cases b1
    rotate_left
    ·have F:=zh (show IsNetL x.b nos [] false from .inr ⟨fun kk=>has_dup t (by rw[zu hno];exact(zu H1).yes) kk.2.2.2.1,rfl,rfl⟩)
     have N3:=zh ((zu N2).below (zu HB4) (zu N2).lt.2)
     go_wp2
     go_ret2
     exact⟨[],false,w.heap.size+1,0,zu F,by simp,rfl,zu N3,(zu S4).b⟩
    have HA':=zh (open_next t (zu HA) ⟨n,by rw[zu hno];exact zu KK,zu HST⟩)
    have HD':=zh (nodup_next t (zu HD) (by rw[zu hno];exact(zu H1).no))
    have tn:=(zu KK).1
    have TO:=zh ((zu OK).1.2.2.2.2.1.2 n tn).1
    have TR:=zh (show legsOf x.b.ts (nos.take (k+1))=legsOf x.b.ts (nos.take k)++legsT (el8 x.b.ts n) from by
     rw[take_nos t,legs_append,zu hno]
     show _++(legsT (tradeNo x.b.ts no)++[])=_
     rw[trade_at (zu KK),List.append_nil])
    obtain⟨d0,d1,d2,d3,d4,d5,d6,d7⟩:=(zu S4).r.rt n tn
    clear KK HST HD H1 cN cN' c4'
    generalize el8 x.b.ts n=p at *
    obtain⟨p0,p1,p2,p3,p4,p5,p6,p7⟩:=p
    have q1:0≤p4:=by have:=(zu TO).2.2.2.2.2.2.1.1;simp at this;omega
    have q2:p4≤1000000000000000:=(zu TO).2.2.2.2.2.2.1.2
    have q3:0≤p6:=(zu TO).2.2.2.2.2.2.2.1.1
    have q4:p6≤1000000000000000:=(zu TO).2.2.2.2.2.2.2.1.2
    have c4:=(zu S4).c.c4
    go_wp2_with fail
    refine(SLegs.sLegs _ p0 p1 p2 p3 p4 p5 p6 p7 q1 q2 q3 q4).mono ?_
    rintro e u3 ⟨gL,cL,rfl,oL,bb⟩
    have S5:=zh ((zu S4).step bb)
    have HB5:=zh ((zu HB4).trans (bb.mono (zu HB4).size))
    have P5:=zh ((zu P4).below bb (zu P4).lt.2)
    have OL:=zh oL
    have FM:=zh (legsT_amt (zu TO))
    clear bb oL S4 HB4 P4 d0 d1 d2 d3 d4 d5 d6 d7 c4
    have HL':=zh (show ListOf (sumK (legsOf x.b.ts (nos.take k)++(legsT (p0,p1,p2,p3,p4,p5,p6,p7)).take 0)) ps from by rw[List.take_zero,List.append_nil];exact zu HL)
    have LL:=zh (legs_len x.b.ts (nos.take k))
    have LA:=zh (legsOf_amt (zu OK).1.2.2.2.2.1 (zu HA))
    obtain⟨L,hL⟩:∃L,Hid (legsOf x.b.ts (nos.take k)=L):=⟨_,rfl⟩
    rw[zu hL] at TR HL' LL LA
    obtain⟨T,hT⟩:∃T,Hid (legsT (p0,p1,p2,p3,p4,p5,p6,p7)=T):=⟨_,rfl⟩
    rw[zu hT] at TR HL' FM OL
    have TL:T.length=4:=by rw[←zu hT];rfl
    have HTL:=zh TL
    clear TL HL hL hT TO
    go_wp2
    go_loopw [7,12] (fun s j wr=>∃(qs:List T3) (gq cq m:Nat),s= .slice (some ⟨gq,0,none⟩) qs.length cq∧j= .int .i64 m∧m≤4∧qs.length≤4*k+m∧Hid (ListOf (sumK (L++T.take m)) qs)∧Hid (Own3 184 wr w.heap.size gq qs.length cq qs)∧Hid (St w wr x)∧Hid (Below u3.heap.size u3 wr)) (fun _ j _=>4-(intOf j).toNat)
    case atStart=>exact⟨ps,gs,cs,0,rfl,rfl,by omega,by omega,HL',P5,S5,zh (Below.refl _ _)⟩
    case round=>
     clear HL' P5 S5
     obtain⟨qs,gq,cq,m,rfl,rfl,hm,ql,HQ,OQ,SQ,BQ⟩:=hrel
     by_cases t2:m<4
     ·have lm:m<T.length:=by rw[zu HTL];exact t2
      have gl:=(zu OL).lt
      obtain⟨e0,e1,e2⟩:=((zu OL).at.below (zu BQ) gl.2) m lm
      have TN:=zh (Bals.take_next lm)
      have AL:=zh ((zu FM) _ (Bals.getD_mem lm))
      obtain⟨l,hl⟩:∃l,Hid (el3 T m=l):=⟨_,rfl⟩
      rw[zu hl] at e0 e1 e2 TN AL
      obtain⟨l0,l1,l2⟩:=l
      obtain⟨v,hv⟩:∃v,Hid (val qs l0 l1=v):=⟨_,rfl⟩
      have VB:=sumK_near (ps:=L++T.take m) (fun l hl=>by
       rcases List.mem_append.1 hl with hl|hl
       ·exact(zu LA) l hl
       ·exact(zu FM) l (List.mem_of_mem_take hl)) (by
       rw[List.length_append,zu LL,List.length_take,List.length_take,zu HTL];omega) l0 l1
      rw[←(zu HQ).2,zu hv] at VB
      have AB:Amt l2:=zu AL
      unfold Amt at AB
      have HW:IntKind.i64.wrap (v+l2)=v+l2:=by rw[IntKind.wrap_i64]<;>omega
      obtain⟨put0,hput⟩:∃put0,Hid ((v+l2==0)=put0):=⟨_,rfl⟩
      have NX:=zh (show ListOf (sumK (L++T.take (m+1))) (putL (l0,l1,v+l2) qs put0) from by
       have:=list_leg (zu HQ) (l0,l1,l2) put0 (by show(val qs l0 l1+l2==0)=put0;rw[zu hv];exact zu hput)
       rw[zu TN,←List.append_assoc]
       show ListOf _ (putL (l0,l1,v+l2) qs put0)
       rw[←zu hv]
       exact this)
      have PL:=Bals.putL_len (l0,l1,v+l2) qs put0
      have PL2:(putL (l0,l1,v+l2) qs put0).length≤qs.length+1:=by cases put0<;>simp at PL<;>omega
      have HPL:=zh PL2
      clear TN AL hl VB AB PL PL2
      have K4:=And.intro e0 (And.intro e1 e2)
      have oq:=(zu OQ).lt
      go_wp2_with fail
      go_region_held3 (fun w'=>w'.cell? ⟨gL,m*3,none⟩=some (.int .i64 l0)∧w'.cell? ⟨gL,m*3+1,none⟩=some (.int .i64 l1)∧w'.cell? ⟨gL,m*3+2,none⟩=some (.int .i64 l2)) (first|exact K4|exact K5)
       (first|(go_at_call 59;refine(Look.sOf wr.drew gq qs.length cq qs l0 l1 rfl (by omega) ((zu OQ).at.below (B:=wr.heap.size) (Below.refl _ _).drew oq.2)).mono ?_;rintro e u5 ⟨he,rfl⟩;rw[zu hv] at he;subst he)|(go_at_call 103;refine(SPut3.sPut wr.drew gq qs.length cq qs l0 l1 (v+l2) put0 rfl (by omega) oq.2 ((zu OQ).at.below (B:=wr.heap.size) (Below.refl _ _).drew oq.2) (zu hput)).mono ?_;rintro e u6 ⟨g6,c6,rfl,o6,bb⟩;have bW:=zh (show Below wr.heap.size wr u6 from ILotsFit.below_of_drew bb);have O6:=zh o6;have K5:=And.intro (((zu bW).cell (p:=⟨gL,m*3,none⟩) (show gL<wr.heap.size by have:=(zu BQ).size;omega)).trans e0) (And.intro (((zu bW).cell (p:=⟨gL,m*3+1,none⟩) (show gL<wr.heap.size by have:=(zu BQ).size;omega)).trans e1) (((zu bW).cell (p:=⟨gL,m*3+2,none⟩) (show gL<wr.heap.size by have:=(zu BQ).size;omega)).trans e2));clear bb o6))
      clear K4 K5 e0 e1 e2
      have S7:=zh ((zu SQ).step (zu bW))
      have B7:=zh ((zu BQ).trans ((zu bW).mono (zu BQ).size))
      have O7:=zh ((zu O6).rebase (base':=w.heap.size) (by have h1:wr.heap.size≤g6:=(zu O6).lt.1;have:=(zu SQ).b.size;omega))
      obtain⟨R,hR⟩:∃R,Hid (putL (l0,l1,v+l2) qs put0=R):=⟨_,rfl⟩
      rw[zu hR] at O7 NX HPL
      rw[zu hR]
      go_wp2
      go_roundw
      case rel=>exact⟨R,g6,c6,m+1,rfl,by go_num,by omega,by have:=zu HPL;omega,NX,O7,S7,B7⟩
      case measure=>simp[intOf];omega
     ·obtain rfl:m=4:=by omega
      have HQ':=zh (show ListOf (sumK (legsOf x.b.ts (nos.take (k+1)))) qs from by
       have:=zu HQ
       rw[List.take_of_length_le (by rw[zu HTL];exact Nat.le_refl _)] at this
       rw[zu TR];exact this)
      have HB9:=zh ((zu HB5).trans ((zu BQ).mono (zu HB5).size))
      go_wp2
      go_roundw
      case rel=>exact⟨qs,gq,cq,k+1,rfl,by go_num,by omega,by omega,HQ',HA',HD',OQ,SQ,HB9⟩
      case measure=>simp[intOf];omega
  ·obtain rfl:k=nos.length:=by omega
   rw[List.take_length] at HL HA HD
   have CAN:=zh (show(∀q∈ps,Amt q.2.2)→CanNet x.b nos from fun h=>⟨zu OK,n30,zu HA,zu HD,(list_amt (zu HL)).1 h⟩)
   have NOT:=zh (show ¬(∀q∈ps,Amt q.2.2)→IsNetL x.b nos [] false from fun h=> .inr ⟨fun kk=>h ((list_amt (zu HL)).2 kk.2.2.2.2),rfl,rfl⟩)
   have hp:=(zu HP).lt
   have hs:=(zu HS).b.size
   have S9:=zh ((zu HS).b.trans ((one_more wr (.cells #[] 181)).mono hs))
   have G9:=zh (Triples.lit30 181 wr w.heap.size hs)
   have P9:=zh ((zu HP).at.below (one_more wr (.cells #[] 181)) hp.2)
   have N9:=zh (((zu N2).below (zu HB) (zu N2).lt.2).alloc (.cells #[] 181))
   have n9:=((zu N2).below (zu HB) (zu N2).lt.2).lt.2
   go_wp2
   have z9:wr.heap.size<(wr.alloc (.cells #[] 181)).heap.size:=by simp
   generalize wr.alloc (.cells #[] 181)=w9 at *
   clear HP HS HB S2 N2 A2 HA HD
   generalize wr.heap.size=Z at *
   go_loopw [13,14] (fun o i wz=>∃(g c j:Nat),o= .slice (some ⟨g,0,none⟩) j c∧i= .int .i64 j∧j≤ps.length∧Hid (∀q∈ps.take j,Amt q.2.2)∧Hid (Own3 181 wz w.heap.size g j c (ps.take j))∧Z≤g∧Hid (Below Z w9 wz)) (fun _ i _=>ps.length-(intOf i).toNat)
   case atStart=>exact⟨Z,0,0,rfl,rfl,by omega,zh (fun q hq=>by simp at hq),G9,Nat.le_refl _,zh (Below.refl _ _)⟩
   case round=>
    clear G9
    obtain⟨g,c,j,rfl,rfl,hj,HG,OG,hg,HB⟩:=hrel
    have wz1:=(zu HB).size
    have wz1':=Nat.le_trans (Nat.le_of_lt z9) wz1
    by_cases t:j<ps.length
    ·obtain⟨e0,e1,e2⟩:=((zu P9).below (zu HB) hp.2) j t
     have TN:=zh (Bals.take_next t)
     have PM:=zh (Bals.getD_mem t)
     obtain⟨q,hq⟩:∃q,Hid (el3 ps j=q):=⟨_,rfl⟩
     rw[zu hq] at e0 e1 e2 TN PM
     obtain⟨y0,y1,y2⟩:=q
     obtain⟨b1,h1⟩:=Bals.says_of (Amt y2)
     have H1:=zh h1
     clear h1 hq
     go_wp2_with fail
     refine(SOk3.sAmt y2 b1 _ (zu H1)).mono ?_
     rintro e v1 ⟨rfl,rfl⟩
     cases b1
     ·have F:=zh ((zu NOT) (fun h=>(zu H1).no (h _ (zu PM))))
      have N3:=zh ((zu N9).below (zu HB) n9)
      have B3:=zh ((zu S9).trans ((zu HB).mono hs))
      go_wp2
      go_ret2
      exact⟨[],false,w.heap.size+1,0,zu F,by simp,rfl,zu N3,zu B3⟩
     have HG':=zh (show ∀q∈ps.take (j+1),Amt q.2.2 from fun q hq=>by
      rw[zu TN] at hq
      rcases List.mem_append.1 hq with hq|hq
      ·exact(zu HG) q hq
      ·rw[List.mem_singleton.1 hq];exact(zu H1).yes)
     have K4:=And.intro e0 (And.intro e1 e2)
     have gv:gs<v1.heap.size:=by omega
     have AO:=zh (one_more v1 (.cells #[.int .i64 y0,.int .i64 y1,.int .i64 y2] 181))
     have K5:=And.intro (((zu AO).cell (p:=⟨gs,j*3,none⟩) gv).trans e0) (And.intro (((zu AO).cell (p:=⟨gs,j*3+1,none⟩) gv).trans e1) (((zu AO).cell (p:=⟨gs,j*3+2,none⟩) gv).trans e2))
     have OG5:=zh ((zu OG).alloc (.cells #[.int .i64 y0,.int .i64 y1,.int .i64 y2] 181))
     have X5:=zh (show At3 (v1.alloc (.cells #[.int .i64 y0,.int .i64 y1,.int .i64 y2] 181)) v1.heap.size [(y0,y1,y2)] from by
      intro i hi
      obtain rfl:i=0:=by simpa using hi
      simp[Holds3])
     have ne:some gs≠some g:=fun e=>by injection e;omega
     go_wp2_with fail
     go_region_held3 (fun w'=>w'.cell? ⟨gs,j*3,none⟩=some (.int .i64 y0)∧w'.cell? ⟨gs,j*3+1,none⟩=some (.int .i64 y1)∧w'.cell? ⟨gs,j*3+2,none⟩=some (.int .i64 y2)) (first|exact K4|exact K5|exact K6)
      (first|(refine SLegs.step_cat3 _ (by rfl) _ _ (by rfl) w.heap.size g j c 1 (ps.take j) [(y0,y1,y2)] v1.heap.size 1 (by rfl) (by rfl) (by exact zu OG5) (by rfl) (by exact zu X5) (by omega) (by simp;omega) ?_;intro g5 c5 w5 o5 gr5 loc5;have O5:=zh o5;have GR:=zh gr5;have LOC:=zh loc5;have K6:=And.intro (gr5.cell K5.1 ne) (And.intro (gr5.cell K5.2.1 ne) (gr5.cell K5.2.2 ne));clear o5 gr5 loc5))
     clear K4 K5 K6 e0 e1 e2
     have B5:=zh (((zu HB).trans ((zu AO).mono wz1')).drew.grown (zu GR) (by simp;omega) (fun i e=>by injection e;omega))
     have O6:=zh (show Own3 181 w5 w.heap.size g5 (j+1) c5 (ps.take (j+1)) from by rw[zu TN];exact zu O5)
     have g6:Z≤g5:=by
      rcases zu LOC with e|e
      ·omega
      ·rw[e];simp;omega
     go_wp2
     go_roundw
     case rel=>exact⟨g5,c5,j+1,by simp,by go_num,by omega,HG',O6,g6,B5⟩
     case measure=>simp[intOf];omega
    ·obtain rfl:j=ps.length:=by omega
     rw[List.take_length] at HG OG
     have F:=zh (show IsNetL x.b nos ps true from .inl ⟨(zu CAN) (zu HG),zu HL,rfl⟩)
     have B3:=zh ((zu S9).trans ((zu HB).mono hs))
     go_wp2
     go_ret2
     exact⟨ps,true,g,c,zu F,by omega,rfl,zu OG,zu B3⟩
end SNetL
namespace SNet
open BMem Bks ILists BHelp Ans Trd TBox Net
open IBalsFit (one_more)
open Lots (Says says_of NoOk)
open Bals (T3 Amt)
open Triples (Own3)
open SIssue (to_wb off_box eq_false eq_true ne_false ne_true)
def ToldW(b:Bk)(lo hi fk:Int):Prop:=Ok b∧NoOk lo∧NoOk hi∧(1≤fk∧fk≤3)
def AnsN(told:Prop)(P:Bk→List T3→Int→Int→Prop)(w:World)(e:Ending)(w':World):Prop:=
 (¬told∧∃g c,e= .returned (.tuple #[.agg #[.slice none 0 0,.slice none 0 0,.slice none 0 0,.slice none 0 0,.slice none 0 0,.int .i64 0],.slice (some ⟨g,0,none⟩) 0 c,.int .i64 0,.int .i64 1])∧Own3 181 w' w.heap.size g 0 c []∧Below w.heap.size w w')∨
 (told∧∃(z:Bx) (ls:List T3) (t c:Int) (g cap:Nat),P z.b ls t c∧ls.length≤120∧e= .returned (.tuple #[.agg #[.slice (some ⟨z.ga,0,none⟩) z.b.ac.length z.ca,.slice (some ⟨z.gi,0,none⟩) z.b.ic.length z.ci,.slice (some ⟨z.gb,0,none⟩) z.b.bs.length z.cb,.slice (some ⟨z.gl,0,none⟩) z.b.ls.length z.cl,.slice (some ⟨z.gt,0,none⟩) z.b.ts.length z.ct,.int .i64 z.b.lot],.slice (some ⟨g,0,none⟩) ls.length cap,.int .i64 t,.int .i64 c])∧Ow w' w.heap.size z∧Own3 181 w' w.heap.size g ls.length cap ls∧Below w.heap.size w w')
theorem own_cap{w:World}{base g n c:Nat}{xs:List Int}(h:Ints.Own w base g n c xs):n≤c∧c≤maxLen:=by
 rcases h.2 with⟨h1,_⟩|⟨g',c',cur,h1,hb,hg,hnc,hcm,hcs,htake⟩
 ·simp at h1
 ·obtain⟨rfl,rfl⟩:g=g'∧c=c':=by simpa using h1
  exact⟨hnc,hcm⟩
theorem open_ok{b:Bk}(h:Ok b){lo hi:Int}:∀{ts:List Tup8.T8},(∀p∈ts,p∈b.ts)→∀no∈openT lo hi ts,NoOk no
 |[],_,no,hn=>by simp[openT] at hn
 |p::r,hs,no,hn=>by
  unfold openT at hn
  rcases List.mem_append.1 hn with hn|hn
  ·split at hn
   ·rw[List.mem_singleton.1 hn]
    exact(((Keep.tright_iff _).1 h.1.2.2.2.2.1).2.1 p (hs p (by simp))).1
   ·simp at hn
  ·exact open_ok h (fun q hq=>hs q (by simp[hq])) no hn
theorem ansM_of{told:Prop}{P:Bk→Int→Int→Prop}{w w':World}{e:Ending}(h:SMove.AnsM told P w e w')(ht:told):∃(z:Bx) (t c:Int),P z.b t c∧e= .returned (.tuple #[.agg #[.slice (some ⟨z.ga,0,none⟩) z.b.ac.length z.ca,.slice (some ⟨z.gi,0,none⟩) z.b.ic.length z.ci,.slice (some ⟨z.gb,0,none⟩) z.b.bs.length z.cb,.slice (some ⟨z.gl,0,none⟩) z.b.ls.length z.cl,.slice (some ⟨z.gt,0,none⟩) z.b.ts.length z.ct,.int .i64 z.b.lot],.int .i64 t,.int .i64 c])∧Ow w' w.heap.size z∧Below w.heap.size w w':=by
 rcases h with⟨n,_⟩|⟨_,h⟩
 ·exact absurd ht n
 ·exact h
theorem hold7{W W':World}{base go gT n cT k:Nat}{v0 v1 v2 v3 v4 v5:Value}{xs:List Int}{no:Int}(V:Box W base go v0 v1 v2 v3 v4 v5)(o:Ints.Own W base gT n cT xs)(hk:k<xs.length)(hn:xs.getD k 0=no)(b:Below W.heap.size W W'):W'.cell? ⟨go,0,none⟩=some v0∧W'.cell? ⟨go,1,none⟩=some v1∧W'.cell? ⟨go,2,none⟩=some v2∧W'.cell? ⟨go,3,none⟩=some v3∧W'.cell? ⟨go,4,none⟩=some v4∧W'.cell? ⟨go,5,none⟩=some v5∧W'.cell? ⟨gT,k,none⟩=some (.int .i64 no):=by
 have V':=V.below b V.lt.2
 have o':=o.below b o.lt.2
 exact⟨V'.c0,V'.c1,V'.c2,V'.c3,V'.c4,V'.c5,by rw[←hn];exact o'.at k hk⟩
theorem drop_nos{xs:List Int}{k:Nat}(h:k<xs.length):xs.drop k=xs.getD k 0::xs.drop (k+1):=by
 rw[List.drop_eq_getElem_cons h]
 simp[List.getD,h]
theorem sNet(w:World)(x:Bx)(lo hi fk:Int)(hr:Rd w x):
  Calls Tryz.prog 54 #[.agg #[.slice (some ⟨x.ga,0,none⟩) x.b.ac.length x.ca,.slice (some ⟨x.gi,0,none⟩) x.b.ic.length x.ci,.slice (some ⟨x.gb,0,none⟩) x.b.bs.length x.cb,.slice (some ⟨x.gl,0,none⟩) x.b.ls.length x.cl,.slice (some ⟨x.gt,0,none⟩) x.b.ts.length x.ct,.int .i64 x.b.lot],.int .i64 lo,.int .i64 hi,.int .i64 fk] w (AnsN (ToldW x.b lo hi fk) (IsNet x.b lo hi fk) w):=by
 obtain⟨b0,h0⟩:=says_of (Ok x.b)
 obtain⟨b1,h1⟩:=says_of (NoOk lo)
 obtain⟨b2,h2⟩:=says_of (NoOk hi)
 obtain⟨b3,h3⟩:=says_of (1≤fk∧fk≤3)
 have H0:=zh h0
 have H1:=zh h1
 have H2:=zh h2
 have H3:=zh h3
 have S0:=zh ((SR.start hr).step (one_more _ (.cells #[] 181)))
 have N0:=zh (show Own3 181 (((w.alloc (.cells #[.slice (some ⟨x.ga,0,none⟩) x.b.ac.length x.ca,.slice (some ⟨x.gi,0,none⟩) x.b.ic.length x.ci,.slice (some ⟨x.gb,0,none⟩) x.b.bs.length x.cb,.slice (some ⟨x.gl,0,none⟩) x.b.ls.length x.cl,.slice (some ⟨x.gt,0,none⟩) x.b.ts.length x.ct,.int .i64 x.b.lot] 44)).alloc (.cells #[.slice none 0 0,.slice none 0 0,.slice none 0 0,.slice none 0 0,.slice none 0 0,.int .i64 0] 44)).alloc (.cells #[] 181)) w.heap.size (w.heap.size+2) 0 0 [] from by
  have:=Triples.lit30 181 ((w.alloc (.cells #[.slice (some ⟨x.ga,0,none⟩) x.b.ac.length x.ca,.slice (some ⟨x.gi,0,none⟩) x.b.ic.length x.ci,.slice (some ⟨x.gb,0,none⟩) x.b.bs.length x.cb,.slice (some ⟨x.gl,0,none⟩) x.b.ls.length x.cl,.slice (some ⟨x.gt,0,none⟩) x.b.ts.length x.ct,.int .i64 x.b.lot] 44)).alloc (.cells #[.slice none 0 0,.slice none 0 0,.slice none 0 0,.slice none 0 0,.slice none 0 0,.int .i64 0] 44)) w.heap.size (by simp;omega)
  simpa using this)
 have HR:=zh hr
 have nt:=hr.nt
 clear h0 h1 h2 h3 hr
 go_enter Tryz.func54,Tryz.ntmps54
 go_wp2_with fail
 refine(SBooksOk.sBooksOk _ x b0 (zu S0).r (zu H0)).mono ?_
 rintro e w1 ⟨rfl,bb⟩
 have S1:=zh ((zu S0).step bb)
 have N1:=zh ((zu N0).below bb (zu N0).lt.2)
 have B1:=zh (zu S1).b
 clear bb N0
 obtain⟨c0,c1,c2,c3,c4,c5⟩:=(zu S1).c
 obtain⟨r0,r1,r2,r3,r4,r5,f0,f1,f2,f3,f4,f5⟩:=Box.all ((zu S1).v)
 cases b0
 ·have N:=zh (show ¬ToldW x.b lo hi fk from fun hh=>(zu H0).no hh.1)
  go_wp2
  refine bodyPost_ret (v:= .tuple #[.agg #[.slice none 0 0,.slice none 0 0,.slice none 0 0,.slice none 0 0,.slice none 0 0,.int .i64 0],.slice (some ⟨w.heap.size+2,0,none⟩) 0 0,.int .i64 0,.int .i64 1]) (by simp[results,Tryz.results54,go_sem,r0,r1,r2,r3,r4,r5]) rfl (.inl ⟨zu N,w.heap.size+2,0,rfl,?_,?_⟩)
  ·exact(zu N1).kept (box_six (zu S1).v _ _ _ _ _ _).2 (fun e=>by injection e;omega)
  ·exact six (zu B1) (by omega) _ _ _ _ _ _
 go_wp2_with fail
 refine(SOk5.sNo lo b1 _ (zu H1)).mono ?_
 rintro e v1 ⟨rfl,rfl⟩
 cases b1
 ·have N:=zh (show ¬ToldW x.b lo hi fk from fun hh=>(zu H1).no hh.2.1)
  go_wp2
  refine bodyPost_ret (v:= .tuple #[.agg #[.slice none 0 0,.slice none 0 0,.slice none 0 0,.slice none 0 0,.slice none 0 0,.int .i64 0],.slice (some ⟨w.heap.size+2,0,none⟩) 0 0,.int .i64 0,.int .i64 1]) (by simp[results,Tryz.results54,go_sem,r0,r1,r2,r3,r4,r5]) rfl (.inl ⟨zu N,w.heap.size+2,0,rfl,?_,?_⟩)
  ·exact(zu N1).kept (box_six (zu S1).v _ _ _ _ _ _).2 (fun e=>by injection e;omega)
  ·exact six (zu B1) (by omega) _ _ _ _ _ _
 go_wp2_with fail
 refine(SOk5.sNo hi b2 _ (zu H2)).mono ?_
 rintro e v2 ⟨rfl,rfl⟩
 cases b2
 ·have N:=zh (show ¬ToldW x.b lo hi fk from fun hh=>(zu H2).no hh.2.2.1)
  go_wp2
  refine bodyPost_ret (v:= .tuple #[.agg #[.slice none 0 0,.slice none 0 0,.slice none 0 0,.slice none 0 0,.slice none 0 0,.int .i64 0],.slice (some ⟨w.heap.size+2,0,none⟩) 0 0,.int .i64 0,.int .i64 1]) (by simp[results,Tryz.results54,go_sem,r0,r1,r2,r3,r4,r5]) rfl (.inl ⟨zu N,w.heap.size+2,0,rfl,?_,?_⟩)
  ·exact(zu N1).kept (box_six (zu S1).v _ _ _ _ _ _).2 (fun e=>by injection e;omega)
  ·exact six (zu B1) (by omega) _ _ _ _ _ _
 go_wp2_with fail
 refine(SOk5.sIn fk 1 3 b3 _ (zu H3)).mono ?_
 rintro e v3 ⟨rfl,rfl⟩
 cases b3
 ·have N:=zh (show ¬ToldW x.b lo hi fk from fun hh=>(zu H3).no hh.2.2.2)
  go_wp2
  refine bodyPost_ret (v:= .tuple #[.agg #[.slice none 0 0,.slice none 0 0,.slice none 0 0,.slice none 0 0,.slice none 0 0,.int .i64 0],.slice (some ⟨w.heap.size+2,0,none⟩) 0 0,.int .i64 0,.int .i64 1]) (by simp[results,Tryz.results54,go_sem,r0,r1,r2,r3,r4,r5]) rfl (.inl ⟨zu N,w.heap.size+2,0,rfl,?_,?_⟩)
  ·exact(zu N1).kept (box_six (zu S1).v _ _ _ _ _ _).2 (fun e=>by injection e;omega)
  ·exact six (zu B1) (by omega) _ _ _ _ _ _
 have TT:=zh (show ToldW x.b lo hi fk from⟨(zu H0).yes,(zu H1).yes,(zu H2).yes,(zu H3).yes⟩)
 clear H0 H1 H2 H3 S0
 go_wp2_with fail
 refine(STell.sTradesOpen _ x lo hi (zu S1).r).mono ?_
 rintro e w2 ⟨xs,gT,cT,hxs,xl,rfl,oT,bb⟩
 have XS:=zh (show xs=openT lo hi x.b.ts from by
  rcases hxs with⟨_,h⟩|⟨h,_⟩
  ·exact h
  ·exact absurd (zu TT).1 h)
 have S2:=zh ((zu S1).step bb)
 have N2:=zh ((zu N1).below bb (zu N1).lt.2)
 have OT:=zh (oT.rebase (base':=w.heap.size) (by have:=oT.lt.1;have:=(zu S1).b.size;omega))
 have gT1:w.heap.size+2<gT:=by have:=oT.lt.1;have:=(zu N1).lt.2;omega
 have x30:x.b.ts.length≤30:=(zu TT).1.1.2.2.2.2.1.1
 have n20:xs.length≤1048576:=by omega
 clear bb oT hxs S1 N1 B1
 clear c0 c1 c2 c3 c4 c5 r0 r1 r2 r3 r4 r5 f0 f1 f2 f3 f4 f5
 obtain⟨c0,c1,c2,c3,c4,c5⟩:=(zu S2).c
 obtain⟨r0,r1,r2,r3,r4,r5,f0,f1,f2,f3,f4,f5⟩:=Box.all ((zu S2).v)
 by_cases e0:xs.length=0
 ·have I3:=zh (show IsNet x.b lo hi fk x.b [] 0 3 from .inl ⟨by rw[←zu XS];exact List.eq_nil_of_length_eq_zero e0,rfl,rfl,rfl,rfl⟩)
  have eb:((xs.length:Int)==0)=true:=by rw[e0];rfl
  clear e0
  go_wp2_with fail
  refine(SCopy.sCopy _ x (zu S2).r).mono ?_
  rintro e w8 ⟨zc,hzc,rfl,oz,bb⟩
  have S8:=zh ((zu S2).step bb)
  have N8:=zh ((zu N2).below bb (zu N2).lt.2)
  have OZ:=zh (oz.rebase (zu S2).b.size)
  have LZ:=zh (ow_lo oz)
  have zl:=(zu S2).v.lt.2
  have IZ:=zh (show IsNet x.b lo hi fk zc.b [] 0 3 from by rw[hzc];exact(zu I3))
  clear bb oz hzc
  clear c0 c1 c2 c3 c4 c5 r0 r1 r2 r3 r4 r5 f0 f1 f2 f3 f4 f5
  obtain⟨c0,c1,c2,c3,c4,c5⟩:=(zu S8).c
  obtain⟨r0,r1,r2,r3,r4,r5,f0,f1,f2,f3,f4,f5⟩:=Box.all ((zu S8).v)
  go_wp2
  refine bodyPost_ret (v:= .tuple #[.agg #[.slice (some ⟨zc.ga,0,none⟩) zc.b.ac.length zc.ca,.slice (some ⟨zc.gi,0,none⟩) zc.b.ic.length zc.ci,.slice (some ⟨zc.gb,0,none⟩) zc.b.bs.length zc.cb,.slice (some ⟨zc.gl,0,none⟩) zc.b.ls.length zc.cl,.slice (some ⟨zc.gt,0,none⟩) zc.b.ts.length zc.ct,.int .i64 zc.b.lot],.slice (some ⟨w.heap.size+2,0,none⟩) 0 0,.int .i64 0,.int .i64 3]) (by simp[results,Tryz.results54,go_sem,r0,r1,r2,r3,r4,r5]) rfl (.inr ⟨zu TT,zc,[],0,3,w.heap.size+2,0,zu IZ,by simp,rfl,?_,?_,?_⟩)
  ·exact ow_six (zu OZ) (off_lo (zu LZ) zl) _ _ _ _ _ _
  ·exact(zu N8).kept (box_six (zu S8).v _ _ _ _ _ _).2 (fun e=>by injection e;omega)
  ·exact six (zu S8).b (by omega) _ _ _ _ _ _
 have eb:((xs.length:Int)==0)=false:=SIssue.eq_false (by omega)
 have NE:=zh (show openT lo hi x.b.ts≠[] from fun h=>e0 (by rw[zu XS,h];rfl))
 clear e0
 go_wp2_with fail
 refine(SCopy.sCopy _ x (zu S2).r).mono ?_
 rintro e w3 ⟨z0,hz,rfl,oz,bb⟩
 have S3:=zh ((zu S2).step bb)
 have S4:=zh ((zu S3).step (one_more w3 (.cells #[.slice (some ⟨z0.ga,0,none⟩) z0.b.ac.length z0.ca,.slice (some ⟨z0.gi,0,none⟩) z0.b.ic.length z0.ci,.slice (some ⟨z0.gb,0,none⟩) z0.b.bs.length z0.cb,.slice (some ⟨z0.gl,0,none⟩) z0.b.ls.length z0.cl,.slice (some ⟨z0.gt,0,none⟩) z0.b.ts.length z0.ct,.int .i64 z0.b.lot] 44)))
 have V4:=zh (Box.made (w:=w3) (base:=w.heap.size) (g:=w3.heap.size) (.slice (some ⟨z0.ga,0,none⟩) z0.b.ac.length z0.ca) (.slice (some ⟨z0.gi,0,none⟩) z0.b.ic.length z0.ci) (.slice (some ⟨z0.gb,0,none⟩) z0.b.bs.length z0.cb) (.slice (some ⟨z0.gl,0,none⟩) z0.b.ls.length z0.cl) (.slice (some ⟨z0.gt,0,none⟩) z0.b.ts.length z0.ct) (.int .i64 z0.b.lot) (zu S3).b.size rfl)
 have O4:=zh (ow_alloc (oz.rebase (zu S2).b.size) (.cells #[.slice (some ⟨z0.ga,0,none⟩) z0.b.ac.length z0.ca,.slice (some ⟨z0.gi,0,none⟩) z0.b.ic.length z0.ci,.slice (some ⟨z0.gb,0,none⟩) z0.b.bs.length z0.cb,.slice (some ⟨z0.gl,0,none⟩) z0.b.ls.length z0.cl,.slice (some ⟨z0.gt,0,none⟩) z0.b.ts.length z0.ct,.int .i64 z0.b.lot] 44))
 have N4:=zh (((zu N2).below bb (zu N2).lt.2).alloc (.cells #[.slice (some ⟨z0.ga,0,none⟩) z0.b.ac.length z0.ca,.slice (some ⟨z0.gi,0,none⟩) z0.b.ic.length z0.ci,.slice (some ⟨z0.gb,0,none⟩) z0.b.bs.length z0.cb,.slice (some ⟨z0.gl,0,none⟩) z0.b.ls.length z0.cl,.slice (some ⟨z0.gt,0,none⟩) z0.b.ts.length z0.ct,.int .i64 z0.b.lot] 44))
 have OT4:=zh (Shorts.own_alloc ((zu OT).below bb (zu OT).lt.2) (.cells #[.slice (some ⟨z0.ga,0,none⟩) z0.b.ac.length z0.ca,.slice (some ⟨z0.gi,0,none⟩) z0.b.ic.length z0.ci,.slice (some ⟨z0.gb,0,none⟩) z0.b.bs.length z0.cb,.slice (some ⟨z0.gl,0,none⟩) z0.b.ls.length z0.cl,.slice (some ⟨z0.gt,0,none⟩) z0.b.ts.length z0.ct,.int .i64 z0.b.lot] 44))
 have gT2:gT<w3.heap.size:=((zu OT).below bb (zu OT).lt.2).lt.2
 have HZ:=zh hz
 have l3:=(zu S3).v.lt
 clear bb oz hz S3 S2 N2 OT
 clear c0 c1 c2 c3 c4 c5 r0 r1 r2 r3 r4 r5 f0 f1 f2 f3 f4 f5
 go_wp2
 generalize w3.alloc (.cells #[.slice (some ⟨z0.ga,0,none⟩) z0.b.ac.length z0.ca,.slice (some ⟨z0.gi,0,none⟩) z0.b.ic.length z0.ci,.slice (some ⟨z0.gb,0,none⟩) z0.b.bs.length z0.cb,.slice (some ⟨z0.gl,0,none⟩) z0.b.ls.length z0.cl,.slice (some ⟨z0.gt,0,none⟩) z0.b.ts.length z0.ct,.int .i64 z0.b.lot] 44)=w4 at *
 generalize w3.heap.size=go at *
 go_loopw [15,16] (fun a i wr=>∃(acc:Int) (k:Nat) (y:Bx),a= .int .i64 acc∧i= .int .i64 k∧k≤xs.length∧-(1000000000000000*(k:Int))≤acc∧acc≤1000000000000000*(k:Int)∧Hid (Ok y.b)∧Hid (∀b' g c,Net.Steps fk (xs.drop k) y.b acc b' g c→Net.Steps fk xs x.b 0 b' g c)∧Hid (SR w wr x)∧Hid (Box wr w.heap.size go (.slice (some ⟨y.ga,0,none⟩) y.b.ac.length y.ca) (.slice (some ⟨y.gi,0,none⟩) y.b.ic.length y.ci) (.slice (some ⟨y.gb,0,none⟩) y.b.bs.length y.cb) (.slice (some ⟨y.gl,0,none⟩) y.b.ls.length y.cl) (.slice (some ⟨y.gt,0,none⟩) y.b.ts.length y.ct) (.int .i64 y.b.lot))∧Hid (Ow wr w.heap.size y)∧Hid (Ints.Own wr w.heap.size gT xs.length cT xs)∧Hid (Own3 181 wr w.heap.size (w.heap.size+2) 0 0 [])) (fun _ i _=>xs.length-(intOf i).toNat)
 case atStart=>exact⟨0,0,z0,rfl,rfl,by omega,by omega,by omega,zh (by rw[zu HZ];exact(zu TT).1),zh (fun b' g c h=>by rw[zu HZ] at h;exact h),S4,V4,O4,OT4,N4⟩
 case round=>
  clear S4 V4 O4 OT4 N4 HZ
  obtain⟨acc,k,y,rfl,rfl,hk,ac1,ac2,HY,HS,SS,VV,OO,OT,NN⟩:=hrel
  by_cases t:k<xs.length
  ·obtain⟨no,hno⟩:∃no,Hid (xs.getD k 0=no):=⟨_,rfl⟩
   have NO:=zh (show NoOk no from by
    rw[←zu hno]
    refine open_ok (zu TT).1 (lo:=lo) (hi:=hi) (fun p hp=>hp) _ ?_
    rw[←zu XS]
    exact SNetL.mem_nos t)
   have DN:=zh (drop_nos t)
   rw[zu hno] at DN
   have TS:=zh (show SSettle.ToldS y.b no fk from⟨zu HY,zu NO,(zu TT).2.2.2⟩)
   have v1:=(zu VV).lt
   have o1:=(zu OT).lt
   have s1:=(zu SS).v.lt
   go_wp2_with fail
   go_region_held3 (fun w'=>w'.cell? ⟨go,0,none⟩=some (.slice (some ⟨y.ga,0,none⟩) y.b.ac.length y.ca)∧w'.cell? ⟨go,1,none⟩=some (.slice (some ⟨y.gi,0,none⟩) y.b.ic.length y.ci)∧w'.cell? ⟨go,2,none⟩=some (.slice (some ⟨y.gb,0,none⟩) y.b.bs.length y.cb)∧w'.cell? ⟨go,3,none⟩=some (.slice (some ⟨y.gl,0,none⟩) y.b.ls.length y.cl)∧w'.cell? ⟨go,4,none⟩=some (.slice (some ⟨y.gt,0,none⟩) y.b.ts.length y.ct)∧w'.cell? ⟨go,5,none⟩=some (.int .i64 y.b.lot)∧w'.cell? ⟨gT,k,none⟩=some (.int .i64 no)) (first|exact hold7 (zu VV) (zu OT) t (zu hno) (by repeat(first|with_reducible exact zu cA|with_reducible exact Below.refl _ _|with_reducible refine Below.drew ?_|(with_reducible refine Below.alloc ?_ ?hle _;case hle=>first|exact Nat.le_refl _|omega|(simp;omega)|simp)|(with_reducible refine Ans.six ?_ ?hle _ _ _ _ _ _;case hle=>first|exact Nat.le_refl _|omega|(simp;omega)))))
    (first|(go_at_call 53;refine(SSettle.sSettle _ y no fk (((zu OO).rd (ok_small (zu HY))).below (by repeat(first|with_reducible exact zu cA|with_reducible exact Below.refl _ _|with_reducible refine Below.drew ?_|(with_reducible refine Below.alloc ?_ ?hle _;case hle=>first|exact Nat.le_refl _|omega|(simp;omega)|simp)|(with_reducible refine Ans.six ?_ ?hle _ _ _ _ _ _;case hle=>first|exact Nat.le_refl _|omega|(simp;omega)))))).mono ?_;rintro e u1 hans;obtain⟨z,g1,cd,hP,rfl,oz,bb⟩:=ansM_of hans (zu TS);have cA:=zh (show Below wr.heap.size wr u1 from Below.trans (by repeat(first|with_reducible exact zu cA|with_reducible exact Below.refl _ _|with_reducible refine Below.drew ?_|(with_reducible refine Below.alloc ?_ ?hle _;case hle=>first|exact Nat.le_refl _|omega|(simp;omega)|simp)|(with_reducible refine Ans.six ?_ ?hle _ _ _ _ _ _;case hle=>first|exact Nat.le_refl _|omega|(simp;omega)))) (bb.mono (by simp)));have sA:=(zu cA).size;(first|(have V0:=zh (Box.below (Box.made (w:=wr.drew) (base:=w.heap.size) (g:=wr.heap.size) (.slice none 0 0) (.slice none 0 0) (.slice none 0 0) (.slice none 0 0) (.slice none 0 0) (.int .i64 0) (by first|omega|(simp;omega)) rfl) bb (by simp));have k0:=(zu V0).c0;have k1:=(zu V0).c1;have k2:=(zu V0).c2;have k3:=(zu V0).c3;have k4:=(zu V0).c4;have k5:=(zu V0).c5;have x0:=(zu V0).free 0;have x1:=(zu V0).free 1;have x2:=(zu V0).free 2;have x3:=(zu V0).free 3;have x4:=(zu V0).free 4;have x5:=(zu V0).free 5)|skip);have HP:=zh hP;have OZ:=zh (oz.rebase (base':=w.heap.size) (by simp;omega));clear hans hP oz bb))
   ·have S6:=zh ((zu SS).step (zu cA))
    have V6:=zh ((zu VV).below (zu cA) v1.2)
    have T6:=zh ((zu OT).below (zu cA) o1.2)
    have N6:=zh ((zu NN).below (zu cA) (zu NN).lt.2)
    have nn:=(zu NN).lt.2
    refine SSettle.to_wc (fun W=>SR w W x∧Box W w.heap.size go (.slice (some ⟨y.ga,0,none⟩) y.b.ac.length y.ca) (.slice (some ⟨y.gi,0,none⟩) y.b.ic.length y.ci) (.slice (some ⟨y.gb,0,none⟩) y.b.bs.length y.cb) (.slice (some ⟨y.gl,0,none⟩) y.b.ls.length y.cl) (.slice (some ⟨y.gt,0,none⟩) y.b.ts.length y.ct) (.int .i64 y.b.lot)∧Box W w.heap.size u1.heap.size (.slice (some ⟨z.ga,0,none⟩) z.b.ac.length z.ca) (.slice (some ⟨z.gi,0,none⟩) z.b.ic.length z.ci) (.slice (some ⟨z.gb,0,none⟩) z.b.bs.length z.cb) (.slice (some ⟨z.gl,0,none⟩) z.b.ls.length z.cl) (.slice (some ⟨z.gt,0,none⟩) z.b.ts.length z.ct) (.int .i64 z.b.lot)∧Ow W w.heap.size z∧Ints.Own W w.heap.size gT xs.length cT xs∧Own3 181 W w.heap.size (w.heap.size+2) 0 0 []) ?_ ?_
    ·exact⟨(zu S6).step (one_more u1 _),World.ownsRow.alloc (zu V6) _,Box.made _ _ _ _ _ _ (zu S6).b.size rfl,ow_alloc (zu OZ) _,Shorts.own_alloc (zu T6) _,(zu N6).alloc _⟩
    rintro W ⟨q1,q2,q3,q4,q5,q6⟩
    have S7:=zh q1
    have V7:=zh q2
    have X7:=zh q3
    have Z7:=zh q4
    have T7:=zh q5
    have N7:=zh q6
    clear q1 q2 q3 q4 q5 q6 S6 V6 T6 N6 SS VV OT NN OO OZ
    have l6:w.heap.size+1≠u1.heap.size:=by omega
    have l7:w.heap.size≠u1.heap.size:=by omega
    have l8:go≠u1.heap.size:=by omega
    by_cases z1:cd=0
    ·subst z1
     have GA:=Net.gain_amt (zu HY) (zu HP)
     unfold Amt at GA
     have HY':=zh (Keep.ok_settle (zu HY) (zu HP))
     have HS':=zh (show ∀b' g c,Net.Steps fk (xs.drop (k+1)) z.b (acc+g1) b' g c→Net.Steps fk xs x.b 0 b' g c from fun b' g c h=>(zu HS) b' g c (by rw[zu DN];exact⟨z.b,g1,0,zu HP,.inr ⟨rfl,h⟩⟩))
     have F7:=zh (off_box (zu Z7) (zu V7))
     obtain⟨a0,a1,a2,a3,a4,a5,af0,af1,af2,af3,af4,af5⟩:=Box.all (zu V7)
     obtain⟨b0,b1,b2,b3,b4,b5,bf0,bf1,bf2,bf3,bf4,bf5⟩:=Box.all (zu X7)
     have G7:=zh (box_six (zu V7) (.slice (some ⟨z.ga,0,none⟩) z.b.ac.length z.ca) (.slice (some ⟨z.gi,0,none⟩) z.b.ic.length z.ci) (.slice (some ⟨z.gb,0,none⟩) z.b.bs.length z.cb) (.slice (some ⟨z.gl,0,none⟩) z.b.ls.length z.cl) (.slice (some ⟨z.gt,0,none⟩) z.b.ts.length z.ct) (.int .i64 z.b.lot))
     go_wp2
     go_roundw
     case rel=>exact⟨acc+g1,k+1,z,by go_num,by go_num,by omega,by omega,by omega,HY',HS',zh (SIssue.SR.grown (zu HR) (zu S7) (zu G7).2 (by omega)),zh (zu G7).1,zh (ow_six (zu Z7) (zu F7) _ _ _ _ _ _),zh ((zu T7).kept (zu G7).2 (fun e=>by injection e;omega)),zh ((zu N7).kept (zu G7).2 (fun e=>by injection e;omega))⟩
     case measure=>simp[intOf];omega
    ·have z1c:(cd !=0)=true:=ne_true z1
     have I8:=zh (show IsNet x.b lo hi fk x.b [] 0 cd from by
      refine .inr ⟨zu NE,y.b,0,cd,?_,.inl ⟨z1,rfl,rfl,rfl,rfl⟩⟩
      rw[←zu XS]
      refine(zu HS) y.b 0 cd ?_
      rw[zu DN]
      exact⟨z.b,g1,cd,zu HP,.inl ⟨z1,rfl,rfl,rfl⟩⟩)
     clear z1
     obtain⟨c0,c1,c2,c3,c4,c5⟩:=(zu S7).c
     obtain⟨r0,r1,r2,r3,r4,r5,f0,f1,f2,f3,f4,f5⟩:=Box.all ((zu S7).v)
     go_wp2_with fail
     refine(SCopy.sCopy _ x (zu S7).r).mono ?_
     rintro e w8 ⟨zc,hzc,rfl,oz,bb⟩
     have S8:=zh ((zu S7).step bb)
     have N8:=zh ((zu N7).below bb (zu N7).lt.2)
     have OZ:=zh (oz.rebase (zu S7).b.size)
     have LZ:=zh (ow_lo oz)
     have zl:=(zu S7).v.lt.2
     have IZ:=zh (show IsNet x.b lo hi fk zc.b [] 0 cd from by rw[hzc];exact(zu I8))
     clear bb oz hzc
     clear c0 c1 c2 c3 c4 c5 r0 r1 r2 r3 r4 r5 f0 f1 f2 f3 f4 f5
     obtain⟨c0,c1,c2,c3,c4,c5⟩:=(zu S8).c
     obtain⟨r0,r1,r2,r3,r4,r5,f0,f1,f2,f3,f4,f5⟩:=Box.all ((zu S8).v)
     go_wp2
     refine bodyPost_ret (v:= .tuple #[.agg #[.slice (some ⟨zc.ga,0,none⟩) zc.b.ac.length zc.ca,.slice (some ⟨zc.gi,0,none⟩) zc.b.ic.length zc.ci,.slice (some ⟨zc.gb,0,none⟩) zc.b.bs.length zc.cb,.slice (some ⟨zc.gl,0,none⟩) zc.b.ls.length zc.cl,.slice (some ⟨zc.gt,0,none⟩) zc.b.ts.length zc.ct,.int .i64 zc.b.lot],.slice (some ⟨w.heap.size+2,0,none⟩) 0 0,.int .i64 0,.int .i64 cd]) (by simp[results,Tryz.results54,go_sem,r0,r1,r2,r3,r4,r5]) rfl (.inr ⟨zu TT,zc,[],0,cd,w.heap.size+2,0,zu IZ,by simp,rfl,?_,?_,?_⟩)
     ·exact ow_six (zu OZ) (off_lo (zu LZ) zl) _ _ _ _ _ _
     ·exact(zu N8).kept (box_six (zu S8).v _ _ _ _ _ _).2 (fun e=>by injection e;omega)
     ·exact six (zu S8).b (by omega) _ _ _ _ _ _
   ·clear k0 k1 k2 k3 k4 k5 x0 x1 x2 x3 x4 x5
    have S6:=zh ((zu SS).step (zu cA))
    have V6:=zh ((zu VV).below (zu cA) v1.2)
    have T6:=zh ((zu OT).below (zu cA) o1.2)
    have N6:=zh ((zu NN).below (zu cA) (zu NN).lt.2)
    have nn:=(zu NN).lt.2
    refine SSettle.to_wc (fun W=>SR w W x∧Box W w.heap.size go (.slice (some ⟨y.ga,0,none⟩) y.b.ac.length y.ca) (.slice (some ⟨y.gi,0,none⟩) y.b.ic.length y.ci) (.slice (some ⟨y.gb,0,none⟩) y.b.bs.length y.cb) (.slice (some ⟨y.gl,0,none⟩) y.b.ls.length y.cl) (.slice (some ⟨y.gt,0,none⟩) y.b.ts.length y.ct) (.int .i64 y.b.lot)∧Box W w.heap.size wr.heap.size (.slice (some ⟨z.ga,0,none⟩) z.b.ac.length z.ca) (.slice (some ⟨z.gi,0,none⟩) z.b.ic.length z.ci) (.slice (some ⟨z.gb,0,none⟩) z.b.bs.length z.cb) (.slice (some ⟨z.gl,0,none⟩) z.b.ls.length z.cl) (.slice (some ⟨z.gt,0,none⟩) z.b.ts.length z.ct) (.int .i64 z.b.lot)∧Ow W w.heap.size z∧Ints.Own W w.heap.size gT xs.length cT xs∧Own3 181 W w.heap.size (w.heap.size+2) 0 0 []) ?_ ?_
    ·exact⟨SIssue.SR.grown (zu HR) (zu S6) (box_six (zu V0) _ _ _ _ _ _).2 (by omega),(zu V6).kept (box_six (zu V0) _ _ _ _ _ _).2 (fun e=>by injection e;omega),(box_six (zu V0) _ _ _ _ _ _).1,ow_six (zu OZ) (off_box (zu OZ) (zu V0)) _ _ _ _ _ _,(zu T6).kept (box_six (zu V0) _ _ _ _ _ _).2 (fun e=>by injection e;omega),(zu N6).kept (box_six (zu V0) _ _ _ _ _ _).2 (fun e=>by injection e;omega)⟩
    rintro W ⟨q1,q2,q3,q4,q5,q6⟩
    have S7:=zh q1
    have V7:=zh q2
    have X7:=zh q3
    have Z7:=zh q4
    have T7:=zh q5
    have N7:=zh q6
    clear q1 q2 q3 q4 q5 q6 S6 V6 T6 N6 SS VV OT NN OO OZ
    have l6:w.heap.size+1≠wr.heap.size:=by omega
    have l7:w.heap.size≠wr.heap.size:=by omega
    have l8:go≠wr.heap.size:=by omega
    by_cases z1:cd=0
    ·subst z1
     have GA:=Net.gain_amt (zu HY) (zu HP)
     unfold Amt at GA
     have HY':=zh (Keep.ok_settle (zu HY) (zu HP))
     have HS':=zh (show ∀b' g c,Net.Steps fk (xs.drop (k+1)) z.b (acc+g1) b' g c→Net.Steps fk xs x.b 0 b' g c from fun b' g c h=>(zu HS) b' g c (by rw[zu DN];exact⟨z.b,g1,0,zu HP,.inr ⟨rfl,h⟩⟩))
     have F7:=zh (off_box (zu Z7) (zu V7))
     obtain⟨a0,a1,a2,a3,a4,a5,af0,af1,af2,af3,af4,af5⟩:=Box.all (zu V7)
     obtain⟨b0,b1,b2,b3,b4,b5,bf0,bf1,bf2,bf3,bf4,bf5⟩:=Box.all (zu X7)
     have G7:=zh (box_six (zu V7) (.slice (some ⟨z.ga,0,none⟩) z.b.ac.length z.ca) (.slice (some ⟨z.gi,0,none⟩) z.b.ic.length z.ci) (.slice (some ⟨z.gb,0,none⟩) z.b.bs.length z.cb) (.slice (some ⟨z.gl,0,none⟩) z.b.ls.length z.cl) (.slice (some ⟨z.gt,0,none⟩) z.b.ts.length z.ct) (.int .i64 z.b.lot))
     go_wp2
     go_roundw
     case rel=>exact⟨acc+g1,k+1,z,by go_num,by go_num,by omega,by omega,by omega,HY',HS',zh (SIssue.SR.grown (zu HR) (zu S7) (zu G7).2 (by omega)),zh (zu G7).1,zh (ow_six (zu Z7) (zu F7) _ _ _ _ _ _),zh ((zu T7).kept (zu G7).2 (fun e=>by injection e;omega)),zh ((zu N7).kept (zu G7).2 (fun e=>by injection e;omega))⟩
     case measure=>simp[intOf];omega
    ·have z1c:(cd !=0)=true:=ne_true z1
     have I8:=zh (show IsNet x.b lo hi fk x.b [] 0 cd from by
      refine .inr ⟨zu NE,y.b,0,cd,?_,.inl ⟨z1,rfl,rfl,rfl,rfl⟩⟩
      rw[←zu XS]
      refine(zu HS) y.b 0 cd ?_
      rw[zu DN]
      exact⟨z.b,g1,cd,zu HP,.inl ⟨z1,rfl,rfl,rfl⟩⟩)
     clear z1
     obtain⟨c0,c1,c2,c3,c4,c5⟩:=(zu S7).c
     obtain⟨r0,r1,r2,r3,r4,r5,f0,f1,f2,f3,f4,f5⟩:=Box.all ((zu S7).v)
     go_wp2_with fail
     refine(SCopy.sCopy _ x (zu S7).r).mono ?_
     rintro e w8 ⟨zc,hzc,rfl,oz,bb⟩
     have S8:=zh ((zu S7).step bb)
     have N8:=zh ((zu N7).below bb (zu N7).lt.2)
     have OZ:=zh (oz.rebase (zu S7).b.size)
     have LZ:=zh (ow_lo oz)
     have zl:=(zu S7).v.lt.2
     have IZ:=zh (show IsNet x.b lo hi fk zc.b [] 0 cd from by rw[hzc];exact(zu I8))
     clear bb oz hzc
     clear c0 c1 c2 c3 c4 c5 r0 r1 r2 r3 r4 r5 f0 f1 f2 f3 f4 f5
     obtain⟨c0,c1,c2,c3,c4,c5⟩:=(zu S8).c
     obtain⟨r0,r1,r2,r3,r4,r5,f0,f1,f2,f3,f4,f5⟩:=Box.all ((zu S8).v)
     go_wp2
     refine bodyPost_ret (v:= .tuple #[.agg #[.slice (some ⟨zc.ga,0,none⟩) zc.b.ac.length zc.ca,.slice (some ⟨zc.gi,0,none⟩) zc.b.ic.length zc.ci,.slice (some ⟨zc.gb,0,none⟩) zc.b.bs.length zc.cb,.slice (some ⟨zc.gl,0,none⟩) zc.b.ls.length zc.cl,.slice (some ⟨zc.gt,0,none⟩) zc.b.ts.length zc.ct,.int .i64 zc.b.lot],.slice (some ⟨w.heap.size+2,0,none⟩) 0 0,.int .i64 0,.int .i64 cd]) (by simp[results,Tryz.results54,go_sem,r0,r1,r2,r3,r4,r5]) rfl (.inr ⟨zu TT,zc,[],0,cd,w.heap.size+2,0,zu IZ,by simp,rfl,?_,?_,?_⟩)
     ·exact ow_six (zu OZ) (off_lo (zu LZ) zl) _ _ _ _ _ _
     ·exact(zu N8).kept (box_six (zu S8).v _ _ _ _ _ _).2 (fun e=>by injection e;omega)
     ·exact six (zu S8).b (by omega) _ _ _ _ _ _
  ·obtain rfl:k=xs.length:=by omega
   have ST:=zh (show Net.Steps fk (openT lo hi x.b.ts) x.b 0 y.b acc 0 from by
    have:=(zu HS) y.b acc 0 (by rw[List.drop_length];exact⟨rfl,rfl,rfl⟩)
    rw[←zu XS];exact this)
   have cap:=own_cap (zu OT)
   have o1:=(zu OT).lt
   obtain⟨c0,c1,c2,c3,c4,c5⟩:=(zu SS).c
   go_wp2_with fail
   refine(SNetL.sNetLegs _ x gT cT xs (zu SS).r n20 cap.1 (by have:=cap.2;unfold maxLen at this;omega) o1.2 (zu OT).at).mono ?_
   rintro e w7 ⟨qs,ok,gq,cq,hL,ql,rfl,oq,bb⟩
   have S7:=zh ((zu SS).step bb)
   have V7:=zh ((zu VV).below bb (zu VV).lt.2)
   have O7:=zh ((zu OO).below bb (Nat.le_refl _))
   have N7:=zh ((zu NN).below bb (zu NN).lt.2)
   have Q7:=zh oq
   have q7:w.heap.size+2<gq:=by have:=oq.lt.1;have:=(zu NN).lt.2;omega
   have HL:=zh (show IsNetL x.b (openT lo hi x.b.ts) qs ok from by rw[←zu XS];exact hL)
   have v7:=(zu VV).lt
   clear bb oq hL SS VV OO NN c0 c1 c2 c3 c4 c5
   cases ok
   ·have I8:=zh (show IsNet x.b lo hi fk x.b [] 0 8 from .inr ⟨zu NE,y.b,acc,0,zu ST,.inr ⟨rfl,qs,false,zu HL,.inl ⟨fun h=>Bool.noConfusion h.1,rfl,rfl,rfl,rfl⟩⟩⟩)
    obtain⟨c0,c1,c2,c3,c4,c5⟩:=(zu S7).c
    obtain⟨r0,r1,r2,r3,r4,r5,f0,f1,f2,f3,f4,f5⟩:=Box.all ((zu S7).v)
    go_wp2_with fail
    refine(SCopy.sCopy _ x (zu S7).r).mono ?_
    rintro e w8 ⟨zc,hzc,rfl,oz,bb⟩
    have S8:=zh ((zu S7).step bb)
    have N8:=zh ((zu N7).below bb (zu N7).lt.2)
    have OZ:=zh (oz.rebase (zu S7).b.size)
    have LZ:=zh (ow_lo oz)
    have zl:=(zu S7).v.lt.2
    have IZ:=zh (show IsNet x.b lo hi fk zc.b [] 0 8 from by rw[hzc];exact(zu I8))
    clear bb oz hzc
    clear c0 c1 c2 c3 c4 c5 r0 r1 r2 r3 r4 r5 f0 f1 f2 f3 f4 f5
    obtain⟨c0,c1,c2,c3,c4,c5⟩:=(zu S8).c
    obtain⟨r0,r1,r2,r3,r4,r5,f0,f1,f2,f3,f4,f5⟩:=Box.all ((zu S8).v)
    go_wp2
    refine bodyPost_ret (v:= .tuple #[.agg #[.slice (some ⟨zc.ga,0,none⟩) zc.b.ac.length zc.ca,.slice (some ⟨zc.gi,0,none⟩) zc.b.ic.length zc.ci,.slice (some ⟨zc.gb,0,none⟩) zc.b.bs.length zc.cb,.slice (some ⟨zc.gl,0,none⟩) zc.b.ls.length zc.cl,.slice (some ⟨zc.gt,0,none⟩) zc.b.ts.length zc.ct,.int .i64 zc.b.lot],.slice (some ⟨w.heap.size+2,0,none⟩) 0 0,.int .i64 0,.int .i64 8]) (by simp[results,Tryz.results54,go_sem,r0,r1,r2,r3,r4,r5]) rfl (.inr ⟨zu TT,zc,[],0,8,w.heap.size+2,0,zu IZ,by simp,rfl,?_,?_,?_⟩)
    ·exact ow_six (zu OZ) (off_lo (zu LZ) zl) _ _ _ _ _ _
    ·exact(zu N8).kept (box_six (zu S8).v _ _ _ _ _ _).2 (fun e=>by injection e;omega)
    ·exact six (zu S8).b (by omega) _ _ _ _ _ _
   obtain⟨b1,h1⟩:=Bals.says_of (Amt acc)
   have H1:=zh h1
   clear h1
   go_wp2_with fail
   refine(SOk3.sAmt acc b1 _ (zu H1)).mono ?_
   rintro e w9 ⟨rfl,rfl⟩
   cases b1
   ·have I8:=zh (show IsNet x.b lo hi fk x.b [] 0 8 from .inr ⟨zu NE,y.b,acc,0,zu ST,.inr ⟨rfl,qs,true,zu HL,.inl ⟨fun h=>(zu H1).no h.2,rfl,rfl,rfl,rfl⟩⟩⟩)
    obtain⟨c0,c1,c2,c3,c4,c5⟩:=(zu S7).c
    obtain⟨r0,r1,r2,r3,r4,r5,f0,f1,f2,f3,f4,f5⟩:=Box.all ((zu S7).v)
    go_wp2_with fail
    refine(SCopy.sCopy _ x (zu S7).r).mono ?_
    rintro e w8 ⟨zc,hzc,rfl,oz,bb⟩
    have S8:=zh ((zu S7).step bb)
    have N8:=zh ((zu N7).below bb (zu N7).lt.2)
    have OZ:=zh (oz.rebase (zu S7).b.size)
    have LZ:=zh (ow_lo oz)
    have zl:=(zu S7).v.lt.2
    have IZ:=zh (show IsNet x.b lo hi fk zc.b [] 0 8 from by rw[hzc];exact(zu I8))
    clear bb oz hzc
    clear c0 c1 c2 c3 c4 c5 r0 r1 r2 r3 r4 r5 f0 f1 f2 f3 f4 f5
    obtain⟨c0,c1,c2,c3,c4,c5⟩:=(zu S8).c
    obtain⟨r0,r1,r2,r3,r4,r5,f0,f1,f2,f3,f4,f5⟩:=Box.all ((zu S8).v)
    go_wp2
    refine bodyPost_ret (v:= .tuple #[.agg #[.slice (some ⟨zc.ga,0,none⟩) zc.b.ac.length zc.ca,.slice (some ⟨zc.gi,0,none⟩) zc.b.ic.length zc.ci,.slice (some ⟨zc.gb,0,none⟩) zc.b.bs.length zc.cb,.slice (some ⟨zc.gl,0,none⟩) zc.b.ls.length zc.cl,.slice (some ⟨zc.gt,0,none⟩) zc.b.ts.length zc.ct,.int .i64 zc.b.lot],.slice (some ⟨w.heap.size+2,0,none⟩) 0 0,.int .i64 0,.int .i64 8]) (by simp[results,Tryz.results54,go_sem,r0,r1,r2,r3,r4,r5]) rfl (.inr ⟨zu TT,zc,[],0,8,w.heap.size+2,0,zu IZ,by simp,rfl,?_,?_,?_⟩)
    ·exact ow_six (zu OZ) (off_lo (zu LZ) zl) _ _ _ _ _ _
    ·exact(zu N8).kept (box_six (zu S8).v _ _ _ _ _ _).2 (fun e=>by injection e;omega)
    ·exact six (zu S8).b (by omega) _ _ _ _ _ _
   have IZ:=zh (show IsNet x.b lo hi fk y.b qs acc 0 from .inr ⟨zu NE,y.b,acc,0,zu ST,.inr ⟨rfl,qs,true,zu HL,.inr ⟨⟨rfl,(zu H1).yes⟩,rfl,rfl,rfl,rfl⟩⟩⟩)
   have F7:=zh (off_box (zu O7) (zu S7).v)
   have l6:w.heap.size+1≠go:=by have:=(zu S7).v.lt;omega
   obtain⟨c0,c1,c2,c3,c4,c5⟩:=(zu S7).c
   obtain⟨r0,r1,r2,r3,r4,r5,f0,f1,f2,f3,f4,f5⟩:=Box.all ((zu S7).v)
   obtain⟨a0,a1,a2,a3,a4,a5,af0,af1,af2,af3,af4,af5⟩:=Box.all (zu V7)
   go_wp2
   refine to_wb (fun W=>Box W w.heap.size (w.heap.size+1) (.slice (some ⟨y.ga,0,none⟩) y.b.ac.length y.ca) (.slice (some ⟨y.gi,0,none⟩) y.b.ic.length y.ci) (.slice (some ⟨y.gb,0,none⟩) y.b.bs.length y.cb) (.slice (some ⟨y.gl,0,none⟩) y.b.ls.length y.cl) (.slice (some ⟨y.gt,0,none⟩) y.b.ts.length y.ct) (.int .i64 y.b.lot)∧Below w.heap.size w W∧Ow W w.heap.size y∧Own3 181 W w.heap.size gq qs.length cq qs) ?_ ?_
   ·exact⟨(box_six (zu S7).v _ _ _ _ _ _).1,six (zu S7).b (by omega) _ _ _ _ _ _,ow_six (zu O7) (zu F7) _ _ _ _ _ _,(Triples.Own3.rebase (zu Q7) (by omega)).kept (box_six (zu S7).v _ _ _ _ _ _).2 (fun e=>by injection e;omega)⟩
   rintro W ⟨X,B,OW,OQ⟩
   have p0:=X.c0
   have p1:=X.c1
   have p2:=X.c2
   have p3:=X.c3
   have p4:=X.c4
   have p5:=X.c5
   exact bodyPost_ret (v:= .tuple #[.agg #[.slice (some ⟨y.ga,0,none⟩) y.b.ac.length y.ca,.slice (some ⟨y.gi,0,none⟩) y.b.ic.length y.ci,.slice (some ⟨y.gb,0,none⟩) y.b.bs.length y.cb,.slice (some ⟨y.gl,0,none⟩) y.b.ls.length y.cl,.slice (some ⟨y.gt,0,none⟩) y.b.ts.length y.ct,.int .i64 y.b.lot],.slice (some ⟨gq,0,none⟩) qs.length cq,.int .i64 acc,.int .i64 0]) (by simp[results,Tryz.results54,go_sem,p0,p1,p2,p3,p4,p5]) rfl (.inr ⟨zu TT,y,qs,acc,0,gq,cq,zu IZ,ql,rfl,OW,OQ,B⟩)
end SNet
namespace Corp
open Bks Trd
open Bals (T3)
open Lots (NoOk)
open MulC (Tells)
theorem tells_is(a b c:Int):∃q r ok,Tells a b c q r ok:=by
 by_cases h:a*b/c≤1000000000000000
 ·exact⟨_,_,_,.inl ⟨h,rfl,rfl,rfl⟩⟩
 ·exact⟨_,_,_,.inr ⟨by omega,rfl,rfl,rfl⟩⟩
theorem tells_bd{a b c q r:Int}{o:Bool}(h:Tells a b c q r o)(a0:0≤a)(b0:0≤b)(c0:0≤c):0≤q∧q≤1000000000000000:=by
 rcases h with⟨h,rfl,_⟩|⟨_,rfl,_⟩
 ·exact⟨Int.ediv_nonneg (Int.mul_nonneg a0 b0) c0,h⟩
 ·omega
def legsF(x y f t am got:Int):List T3:=pairL x y f am++pairL y x t got
theorem legsF_even(x y f t am got:Int):Bals.Even (legsF x y f t am got):=SCarryP.legs_even (0,x,y,t,got,f,am,0)
def FxNone(b:Bk)(x y f t:Int):Prop:=kindOf b.ac x=0∨kindOf b.ac y=0∨kindOf b.ic f=0∨kindOf b.ic t=0
def FxKind(b:Bk)(x y f t:Int):Prop:=kindOf b.ac x≠1∨kindOf b.ac y≠3∨kindOf b.ic f≠1∨kindOf b.ic t≠1∨f=t
def IsFx(b:Bk)(x y f t am n d:Int)(b':Bk)(g c:Int):Prop:=
 (FxNone b x y f t∧b'=b∧g=0∧c=3)∨
 (¬FxNone b x y f t∧FxKind b x y f t∧b'=b∧g=0∧c=4)∨
 (¬FxNone b x y f t∧¬FxKind b x y f t∧∃q r ok,Tells am n d q r ok∧((ok=false∧b'=b∧g=0∧c=8)∨
  (ok=true∧∃b1 c1,IsPosted b (legsF x y f t am q) b1 c1∧((c1≠0∧b'=b∧g=0∧c=c1)∨(c1=0∧b'=b1∧g=q∧c=0)))))
end Corp
namespace SFx
open BMem Bks ILists BHelp Ans SBk Corp Trd
open IBalsFit (one_more)
open Lots (Says says_of NoOk)
open Bals (T3)
open Triples (Own3 At3 flat3 flat3_len flat3_one flat3_append own3_of_row)
open SIssue (to_wb off_box six_alloc box_six_alloc ow_six_alloc eq_true eq_false ne_true ne_false)
open SMove (AnsM)
open MulC (Tells)
def ToldF(b:Bk)(fx fy ff ft am nu de:Int):Prop:=Ok b∧NoOk fx∧NoOk fy∧NoOk ff∧NoOk ft∧(1≤am∧am≤1000000000000000)∧(1≤nu∧nu≤1000000000000000)∧(1≤de∧de≤1000000000000000)
theorem fx_formed{fx fy ff ft am q:Int}(h1:NoOk fx)(h2:NoOk fy)(h3:NoOk ff)(h4:NoOk ft)(a1:0≤am)(a2:am≤1000000000000000)(q1:0≤q)(q2:q≤1000000000000000):Bals.Formed (legsF fx fy ff ft am q):=by
 have a:=SCarryP.pair_formed0 h1 h2 h3 a1 a2
 have b:=SCarryP.pair_formed0 h2 h1 h4 q1 q2
 refine⟨by simp[legsF,pairL],fun k hk=>?_⟩
 have m:Bals.el3 (legsF fx fy ff ft am q) k∈legsF fx fy ff ft am q:=Bals.getD_mem hk
 rcases List.mem_append.1 m with m|m
 ·exact a _ m
 ·exact b _ m
theorem Off1{W:World}{base base' g n c:Nat}{xs:List T3}{z:Bx}(O:Ow W base z)(h:Own3 181 W base' g n c xs):Off z g:=
 ⟨SIssue.row_ne O.oa h (by decide),SIssue.row_ne O.oi h (by decide),SIssue.row_ne O.ob h (by decide),SIssue.row_ne O.ol h (by decide),SIssue.row_ne O.ot h (by decide)⟩
theorem ow_offk{W W':World}{base g:Nat}{z:Bx}(h:Ow W base z)(k:W.grownBy W' (some g))(off:Off z g):Ow W' base z:=
 ⟨h.oa.kept k (fun e=>by injection e with e;exact off.1 e),h.oi.kept k (fun e=>by injection e with e;exact off.2.1 e),h.ob.kept k (fun e=>by injection e with e;exact off.2.2.1 e),h.ol.kept k (fun e=>by injection e with e;exact off.2.2.2.1 e),h.ot.kept k (fun e=>by injection e with e;exact off.2.2.2.2 e)⟩
theorem wp_cat3(u:World){ops:Array Oper}{rest:List Oper}{o:Oper}{a:Act}{Q:Exit→Act→World→Prop}(hgd:o.guard=none)(s x:Operand)
  (ho:o.op= .call {callee:= .builtin .append,args:= #[s,x],argTypes:= #[106,106]})(base g n cap m:Nat)(ps qs:List T3)(vb c:Nat)
  (hs:a.eval s= .slice (some ⟨g,0,none⟩) n cap)(hx:a.eval x= .slice (some ⟨vb,0,none⟩) m c)(hown:Own3 181 u base g n cap ps)(hl:qs.length=m)(hv:At3 u vb qs)(hn:n+m≤1048576)(hb:base≤u.heap.size)
  (h:∀g' c' w',Own3 181 w' base g' (n+m) c' (ps++qs)→u.grownBy w' (some g)→wpList Tryz.prog ops Q rest (a.put o.dst (.slice (some ⟨g',0,none⟩) (n+m) c')) w'):wpList Tryz.prog ops Q (o::rest) a u:=by
 obtain⟨i0,hi,hz0,hz1,hz2⟩:=info_parts LegApp.info2
 refine wpList_append_own_at u hgd s x 106 ho base 181 i0 (.agg #[.int .i64 0,.int .i64 0,.int .i64 0]) 3 24 Tryz.underlying106 hi hz0 hz1 hz2 rfl (by decide) _ n _ hs hown ⟨vb,0,none⟩ m c (flat3 qs) hx (by rw[flat3_len,hl]) hv.cells (fun u hu=>flat3_one u _ hu) (by unfold maxLen;omega) (by omega) hb ?_
 intro v' w' own' gr' nil' loc'
 obtain⟨g',c',rfl,o'⟩:=own3_of_row (n':=n+m) (ps:=ps++qs) own' rfl (by rw[flat3_append]) (by rw[nil'];simp)
 exact h g' c' w' o' gr'
theorem sFx(w:World)(x:Bx)(fx fy ff ft am nu de:Int)(hr:Rd w x):
  Calls Tryz.prog 55 #[.agg #[.slice (some ⟨x.ga,0,none⟩) x.b.ac.length x.ca,.slice (some ⟨x.gi,0,none⟩) x.b.ic.length x.ci,.slice (some ⟨x.gb,0,none⟩) x.b.bs.length x.cb,.slice (some ⟨x.gl,0,none⟩) x.b.ls.length x.cl,.slice (some ⟨x.gt,0,none⟩) x.b.ts.length x.ct,.int .i64 x.b.lot],.int .i64 fx,.int .i64 fy,.int .i64 ff,.int .i64 ft,.int .i64 am,.int .i64 nu,.int .i64 de] w (AnsM (ToldF x.b fx fy ff ft am nu de) (IsFx x.b fx fy ff ft am nu de) w):=by
 obtain⟨b0,h0⟩:=says_of (Ok x.b)
 obtain⟨b1,h1⟩:=says_of (NoOk fx)
 obtain⟨b2,h2⟩:=says_of (NoOk fy)
 obtain⟨b3,h3⟩:=says_of (NoOk ff)
 obtain⟨b4,h4⟩:=says_of (NoOk ft)
 obtain⟨b5,h5⟩:=says_of (1≤am∧am≤1000000000000000)
 obtain⟨b6,h6⟩:=says_of (1≤nu∧nu≤1000000000000000)
 obtain⟨b7,h7⟩:=says_of (1≤de∧de≤1000000000000000)
 have H0:=zh h0
 have H1:=zh h1
 have H2:=zh h2
 have H3:=zh h3
 have H4:=zh h4
 have H5:=zh h5
 have H6:=zh h6
 have H7:=zh h7
 have S0:=zh (SR.start hr)
 have HR:=zh hr
 clear h0 h1 h2 h3 h4 h5 h6 h7 hr
 go_enter Tryz.func55,Tryz.ntmps55
 go_wp2_with fail
 refine(SBooksOk.sBooksOk _ x b0 (zu S0).r (zu H0)).mono ?_
 rintro e w1 ⟨rfl,bb⟩
 have S1:=zh ((zu S0).step bb)
 have B1:=zh (zu S1).b
 clear bb
 obtain⟨c0,c1,c2,c3,c4,c5⟩:=(zu S1).c
 obtain⟨r0,r1,r2,r3,r4,r5,f0,f1,f2,f3,f4,f5⟩:=Box.all ((zu S1).v)
 cases b0
 ·have N:=zh (show ¬ToldF x.b fx fy ff ft am nu de from fun hh=>(zu H0).no hh.1)
  go_wp2
  refine bodyPost_ret (v:= .tuple #[.agg #[.slice none 0 0,.slice none 0 0,.slice none 0 0,.slice none 0 0,.slice none 0 0,.int .i64 0],.int .i64 0,.int .i64 1]) (by simp[results,Tryz.results55,go_sem,r0,r1,r2,r3,r4,r5]) rfl (.inl ⟨zu N,rfl,?_⟩)
  exact six (zu B1) (by omega) _ _ _ _ _ _
 go_wp2_with fail
 refine(SOk5.sNo fx b1 _ (zu H1)).mono ?_
 rintro e v1 ⟨rfl,rfl⟩
 cases b1
 ·have N:=zh (show ¬ToldF x.b fx fy ff ft am nu de from fun hh=>(zu H1).no hh.2.1)
  go_wp2
  refine bodyPost_ret (v:= .tuple #[.agg #[.slice none 0 0,.slice none 0 0,.slice none 0 0,.slice none 0 0,.slice none 0 0,.int .i64 0],.int .i64 0,.int .i64 1]) (by simp[results,Tryz.results55,go_sem,r0,r1,r2,r3,r4,r5]) rfl (.inl ⟨zu N,rfl,?_⟩)
  exact six (zu B1) (by omega) _ _ _ _ _ _
 go_wp2_with fail
 refine(SOk5.sNo fy b2 _ (zu H2)).mono ?_
 rintro e v2 ⟨rfl,rfl⟩
 cases b2
 ·have N:=zh (show ¬ToldF x.b fx fy ff ft am nu de from fun hh=>(zu H2).no hh.2.2.1)
  go_wp2
  refine bodyPost_ret (v:= .tuple #[.agg #[.slice none 0 0,.slice none 0 0,.slice none 0 0,.slice none 0 0,.slice none 0 0,.int .i64 0],.int .i64 0,.int .i64 1]) (by simp[results,Tryz.results55,go_sem,r0,r1,r2,r3,r4,r5]) rfl (.inl ⟨zu N,rfl,?_⟩)
  exact six (zu B1) (by omega) _ _ _ _ _ _
 go_wp2_with fail
 refine(SOk5.sNo ff b3 _ (zu H3)).mono ?_
 rintro e v3 ⟨rfl,rfl⟩
 cases b3
 ·have N:=zh (show ¬ToldF x.b fx fy ff ft am nu de from fun hh=>(zu H3).no hh.2.2.2.1)
  go_wp2
  refine bodyPost_ret (v:= .tuple #[.agg #[.slice none 0 0,.slice none 0 0,.slice none 0 0,.slice none 0 0,.slice none 0 0,.int .i64 0],.int .i64 0,.int .i64 1]) (by simp[results,Tryz.results55,go_sem,r0,r1,r2,r3,r4,r5]) rfl (.inl ⟨zu N,rfl,?_⟩)
  exact six (zu B1) (by omega) _ _ _ _ _ _
 go_wp2_with fail
 refine(SOk5.sNo ft b4 _ (zu H4)).mono ?_
 rintro e v4 ⟨rfl,rfl⟩
 cases b4
 ·have N:=zh (show ¬ToldF x.b fx fy ff ft am nu de from fun hh=>(zu H4).no hh.2.2.2.2.1)
  go_wp2
  refine bodyPost_ret (v:= .tuple #[.agg #[.slice none 0 0,.slice none 0 0,.slice none 0 0,.slice none 0 0,.slice none 0 0,.int .i64 0],.int .i64 0,.int .i64 1]) (by simp[results,Tryz.results55,go_sem,r0,r1,r2,r3,r4,r5]) rfl (.inl ⟨zu N,rfl,?_⟩)
  exact six (zu B1) (by omega) _ _ _ _ _ _
 go_wp2_with fail
 refine(SOk5.sSome am 1 b5 _ (zu H5)).mono ?_
 rintro e v5 ⟨rfl,rfl⟩
 cases b5
 ·have N:=zh (show ¬ToldF x.b fx fy ff ft am nu de from fun hh=>(zu H5).no hh.2.2.2.2.2.1)
  go_wp2
  refine bodyPost_ret (v:= .tuple #[.agg #[.slice none 0 0,.slice none 0 0,.slice none 0 0,.slice none 0 0,.slice none 0 0,.int .i64 0],.int .i64 0,.int .i64 1]) (by simp[results,Tryz.results55,go_sem,r0,r1,r2,r3,r4,r5]) rfl (.inl ⟨zu N,rfl,?_⟩)
  exact six (zu B1) (by omega) _ _ _ _ _ _
 go_wp2_with fail
 refine(SOk5.sSome nu 1 b6 _ (zu H6)).mono ?_
 rintro e v6 ⟨rfl,rfl⟩
 cases b6
 ·have N:=zh (show ¬ToldF x.b fx fy ff ft am nu de from fun hh=>(zu H6).no hh.2.2.2.2.2.2.1)
  go_wp2
  refine bodyPost_ret (v:= .tuple #[.agg #[.slice none 0 0,.slice none 0 0,.slice none 0 0,.slice none 0 0,.slice none 0 0,.int .i64 0],.int .i64 0,.int .i64 1]) (by simp[results,Tryz.results55,go_sem,r0,r1,r2,r3,r4,r5]) rfl (.inl ⟨zu N,rfl,?_⟩)
  exact six (zu B1) (by omega) _ _ _ _ _ _
 go_wp2_with fail
 refine(SOk5.sSome de 1 b7 _ (zu H7)).mono ?_
 rintro e v7 ⟨rfl,rfl⟩
 cases b7
 ·have N:=zh (show ¬ToldF x.b fx fy ff ft am nu de from fun hh=>(zu H7).no hh.2.2.2.2.2.2.2)
  go_wp2
  refine bodyPost_ret (v:= .tuple #[.agg #[.slice none 0 0,.slice none 0 0,.slice none 0 0,.slice none 0 0,.slice none 0 0,.int .i64 0],.int .i64 0,.int .i64 1]) (by simp[results,Tryz.results55,go_sem,r0,r1,r2,r3,r4,r5]) rfl (.inl ⟨zu N,rfl,?_⟩)
  exact six (zu B1) (by omega) _ _ _ _ _ _
 have TT:=zh (show ToldF x.b fx fy ff ft am nu de from⟨(zu H0).yes,(zu H1).yes,(zu H2).yes,(zu H3).yes,(zu H4).yes,(zu H5).yes,(zu H6).yes,(zu H7).yes⟩)
 have LI:=zh (zu H0).yes.1
 have SM:=zh (ok_small (zu H0).yes)
 have a1:1≤am:=(zu H5).yes.1
 have a2:am≤1000000000000000:=(zu H5).yes.2
 have n1:1≤nu:=(zu H6).yes.1
 have n2:nu≤1000000000000000:=(zu H6).yes.2
 have e1:1≤de:=(zu H7).yes.1
 have e2:de≤1000000000000000:=(zu H7).yes.2
 clear H0 H1 H2 H3 H4 H5 H6 H7 S0
 clear c0 c1 c2 c3 c4 c5 r0 r1 r2 r3 r4 r5 f0 f1 f2 f3 f4 f5
 obtain⟨K1,hK1⟩:∃K,Hid (kindOf x.b.ac fx=K):=⟨_,rfl⟩
 obtain⟨K2,hK2⟩:∃K,Hid (kindOf x.b.ac fy=K):=⟨_,rfl⟩
 obtain⟨K3,hK3⟩:∃K,Hid (kindOf x.b.ic ff=K):=⟨_,rfl⟩
 obtain⟨K4,hK4⟩:∃K,Hid (kindOf x.b.ic ft=K):=⟨_,rfl⟩
 obtain⟨q,r,ok,htl⟩:=tells_is am nu de
 have TL:=zh htl
 have qb:=tells_bd htl (by omega) (by omega) (by omega)
 clear htl
 have M1:=trivial
 go_wp2_with fail
 have Q4:=(zu S1).c.c0
 go_region_held3 (fun w'=>w'.cell? ⟨w.heap.size,0,none⟩=some (.slice (some ⟨x.ga,0,none⟩) x.b.ac.length x.ca)) (first|exact Q4|exact Q5|exact Q6)
  (first|(go_at_call 72;clear M1;refine(SBals.sKindA v7.drew x fx K1 ((zu S1).r.below (Below.refl _ _).drew) (zu LI).1 (zu hK1)).mono ?_;rintro e u1 ⟨rfl,bb⟩;have bW:Below v7.heap.size v7 u1:=ILotsFit.below_of_drew bb;have T1:=zh ((zu S1).step bW);have Q5:=(zu T1).c.c0;clear bb bW)|(go_at_call 72;refine(SBals.sKindA u1 x fy K2 (zu T1).r (zu LI).1 (zu hK2)).mono ?_;rintro e u2 ⟨rfl,bb2⟩;have T2:=zh ((zu T1).step bb2);have Q6:=(zu T2).c.c0;clear bb2))
 clear Q4 Q5 Q6 T1
 have M1:=trivial
 go_wp2_with fail
 have Q4:=(zu T2).c.c1
 go_region_held3 (fun w'=>w'.cell? ⟨w.heap.size,1,none⟩=some (.slice (some ⟨x.gi,0,none⟩) x.b.ic.length x.ci)) (first|exact Q4|exact Q5|exact Q6)
  (first|(go_at_call 73;clear M1;refine(SBals.sKindI u2.drew x ff K3 ((zu T2).r.below (Below.refl _ _).drew) (zu LI).2.1 (zu hK3)).mono ?_;rintro e u3 ⟨rfl,bb⟩;have bW:Below u2.heap.size u2 u3:=ILotsFit.below_of_drew bb;have T3:=zh ((zu T2).step bW);have Q5:=(zu T3).c.c1;clear bb bW)|(go_at_call 73;refine(SBals.sKindI u3 x ft K4 (zu T3).r (zu LI).2.1 (zu hK4)).mono ?_;rintro e u4 ⟨rfl,bb2⟩;have S2:=zh ((zu T3).step bb2);have Q6:=(zu S2).c.c1;clear bb2))
 clear Q4 Q5 Q6 T2 T3
 obtain⟨c0,c1,c2,c3,c4,c5⟩:=(zu S2).c
 obtain⟨r0,r1,r2,r3,r4,r5,f0,f1,f2,f3,f4,f5⟩:=Box.all ((zu S2).v)
 have zero:((K1==0)=true∨((K1==0)=false∧(K2==0)=true)∨((K1==0)=false∧(K2==0)=false∧(K3==0)=true)∨((K1==0)=false∧(K2==0)=false∧(K3==0)=false∧(K4==0)=true))∧Hid (FxNone x.b fx fy ff ft)∨((K1==0)=false∧(K2==0)=false∧(K3==0)=false∧(K4==0)=false)∧Hid (¬FxNone x.b fx fy ff ft):=by
  unfold FxNone
  rw[zu hK1,zu hK2,zu hK3,zu hK4]
  by_cases k1:K1=0
  ·exact .inl ⟨.inl (eq_true k1),.inl k1⟩
  by_cases k2:K2=0
  ·exact .inl ⟨.inr (.inl ⟨eq_false k1,eq_true k2⟩),.inr (.inl k2)⟩
  by_cases k3:K3=0
  ·exact .inl ⟨.inr (.inr (.inl ⟨eq_false k1,eq_false k2,eq_true k3⟩)),.inr (.inr (.inl k3))⟩
  by_cases k4:K4=0
  ·exact .inl ⟨.inr (.inr (.inr ⟨eq_false k1,eq_false k2,eq_false k3,eq_true k4⟩)),.inr (.inr (.inr k4))⟩
  ·exact .inr ⟨⟨eq_false k1,eq_false k2,eq_false k3,eq_false k4⟩,fun hh=>by omega⟩
 obtain⟨Z,ZZ⟩|⟨⟨m1,m2,m3,m4⟩,NZ⟩:=zero
 ·have I3:=zh (show IsFx x.b fx fy ff ft am nu de x.b 0 3 from .inl ⟨zu ZZ,rfl,rfl,rfl⟩)
  clear hK1 hK2 hK3 hK4 ZZ TL
  obtain m1|⟨m1,m2⟩|⟨m1,m2,m3⟩|⟨m1,m2,m3,m4⟩:=Z
  all_goals
   go_wp2_with fail
   refine(SCopy.sCopy _ x (zu S2).r).mono ?_
   rintro e w8 ⟨z,hz,rfl,oz,bb⟩
   have S8:=zh ((zu S2).step bb)
   have OZ:=zh (oz.rebase (zu S2).b.size)
   have LZ:=zh (ow_lo oz)
   have zl:=(zu S2).v.lt.2
   have IZ:=zh (show IsFx x.b fx fy ff ft am nu de z.b 0 3 from by rw[hz];exact(zu I3))
   clear bb oz hz
   clear c0 c1 c2 c3 c4 c5 r0 r1 r2 r3 r4 r5 f0 f1 f2 f3 f4 f5
   obtain⟨c0,c1,c2,c3,c4,c5⟩:=(zu S8).c
   obtain⟨r0,r1,r2,r3,r4,r5,f0,f1,f2,f3,f4,f5⟩:=Box.all ((zu S8).v)
   go_wp2
   refine bodyPost_ret (v:= .tuple #[.agg #[.slice (some ⟨z.ga,0,none⟩) z.b.ac.length z.ca,.slice (some ⟨z.gi,0,none⟩) z.b.ic.length z.ci,.slice (some ⟨z.gb,0,none⟩) z.b.bs.length z.cb,.slice (some ⟨z.gl,0,none⟩) z.b.ls.length z.cl,.slice (some ⟨z.gt,0,none⟩) z.b.ts.length z.ct,.int .i64 z.b.lot],.int .i64 0,.int .i64 3]) (by simp[results,Tryz.results55,go_sem,r0,r1,r2,r3,r4,r5]) rfl (.inr ⟨zu TT,z,0,3,zu IZ,rfl,?_,?_⟩)
   ·exact ow_six (zu OZ) (off_lo (zu LZ) zl) _ _ _ _ _ _
   ·exact six (zu S8).b (by omega) _ _ _ _ _ _
 have kinds:((K1 !=1)=true∨((K1 !=1)=false∧(K2 !=3)=true)∨((K1 !=1)=false∧(K2 !=3)=false∧(K3 !=1)=true)∨((K1 !=1)=false∧(K2 !=3)=false∧(K3 !=1)=false∧(K4 !=1)=true)∨((K1 !=1)=false∧(K2 !=3)=false∧(K3 !=1)=false∧(K4 !=1)=false∧(ff==ft)=true))∧Hid (FxKind x.b fx fy ff ft)∨((K1 !=1)=false∧(K2 !=3)=false∧(K3 !=1)=false∧(K4 !=1)=false∧(ff==ft)=false)∧Hid (¬FxKind x.b fx fy ff ft):=by
  unfold FxKind
  rw[zu hK1,zu hK2,zu hK3,zu hK4]
  by_cases k1:K1=1
  ·by_cases k2:K2=3
   ·by_cases k3:K3=1
    ·by_cases k4:K4=1
     ·by_cases k5:ff=ft
      ·exact .inl ⟨.inr (.inr (.inr (.inr ⟨ne_false k1,ne_false k2,ne_false k3,ne_false k4,eq_true k5⟩))),.inr (.inr (.inr (.inr k5)))⟩
      ·exact .inr ⟨⟨ne_false k1,ne_false k2,ne_false k3,ne_false k4,eq_false k5⟩,fun hh=>by omega⟩
     ·exact .inl ⟨.inr (.inr (.inr (.inl ⟨ne_false k1,ne_false k2,ne_false k3,ne_true k4⟩))),.inr (.inr (.inr (.inl k4)))⟩
    ·exact .inl ⟨.inr (.inr (.inl ⟨ne_false k1,ne_false k2,ne_true k3⟩)),.inr (.inr (.inl k3))⟩
   ·exact .inl ⟨.inr (.inl ⟨ne_false k1,ne_true k2⟩),.inr (.inl k2)⟩
  ·exact .inl ⟨.inl (ne_true k1),.inl k1⟩
 obtain⟨Z,ZZ⟩|⟨⟨q1,q2,q3,q4,q5⟩,NK⟩:=kinds
 ·have I4:=zh (show IsFx x.b fx fy ff ft am nu de x.b 0 4 from .inr (.inl ⟨zu NZ,zu ZZ,rfl,rfl,rfl⟩))
  clear hK1 hK2 hK3 hK4 ZZ NZ TL
  obtain q1|⟨q1,q2⟩|⟨q1,q2,q3⟩|⟨q1,q2,q3,q4⟩|⟨q1,q2,q3,q4,q5⟩:=Z
  all_goals
   go_wp2_with fail
   refine(SCopy.sCopy _ x (zu S2).r).mono ?_
   rintro e w8 ⟨z,hz,rfl,oz,bb⟩
   have S8:=zh ((zu S2).step bb)
   have OZ:=zh (oz.rebase (zu S2).b.size)
   have LZ:=zh (ow_lo oz)
   have zl:=(zu S2).v.lt.2
   have IZ:=zh (show IsFx x.b fx fy ff ft am nu de z.b 0 4 from by rw[hz];exact(zu I4))
   clear bb oz hz
   clear c0 c1 c2 c3 c4 c5 r0 r1 r2 r3 r4 r5 f0 f1 f2 f3 f4 f5
   obtain⟨c0,c1,c2,c3,c4,c5⟩:=(zu S8).c
   obtain⟨r0,r1,r2,r3,r4,r5,f0,f1,f2,f3,f4,f5⟩:=Box.all ((zu S8).v)
   go_wp2
   refine bodyPost_ret (v:= .tuple #[.agg #[.slice (some ⟨z.ga,0,none⟩) z.b.ac.length z.ca,.slice (some ⟨z.gi,0,none⟩) z.b.ic.length z.ci,.slice (some ⟨z.gb,0,none⟩) z.b.bs.length z.cb,.slice (some ⟨z.gl,0,none⟩) z.b.ls.length z.cl,.slice (some ⟨z.gt,0,none⟩) z.b.ts.length z.ct,.int .i64 z.b.lot],.int .i64 0,.int .i64 4]) (by simp[results,Tryz.results55,go_sem,r0,r1,r2,r3,r4,r5]) rfl (.inr ⟨zu TT,z,0,4,zu IZ,rfl,?_,?_⟩)
   ·exact ow_six (zu OZ) (off_lo (zu LZ) zl) _ _ _ _ _ _
   ·exact six (zu S8).b (by omega) _ _ _ _ _ _
 clear hK1 hK2 hK3 hK4
 go_wp2_with fail
 refine(MulC.sMD am nu de q r ok _ (by omega) a2 (by omega) n2 e1 e2 TL).mono ?_
 rintro e v8 ⟨rfl,rfl⟩
 cases ok
 ·have I8:=zh (show IsFx x.b fx fy ff ft am nu de x.b 0 8 from .inr (.inr ⟨zu NZ,zu NK,q,r,false,zu TL,.inl ⟨rfl,rfl,rfl,rfl⟩⟩))
  clear NZ NK TL
  go_wp2_with fail
  refine(SCopy.sCopy _ x (zu S2).r).mono ?_
  rintro e w8 ⟨z,hz,rfl,oz,bb⟩
  have S8:=zh ((zu S2).step bb)
  have OZ:=zh (oz.rebase (zu S2).b.size)
  have LZ:=zh (ow_lo oz)
  have zl:=(zu S2).v.lt.2
  have IZ:=zh (show IsFx x.b fx fy ff ft am nu de z.b 0 8 from by rw[hz];exact(zu I8))
  clear bb oz hz
  clear c0 c1 c2 c3 c4 c5 r0 r1 r2 r3 r4 r5 f0 f1 f2 f3 f4 f5
  obtain⟨c0,c1,c2,c3,c4,c5⟩:=(zu S8).c
  obtain⟨r0,r1,r2,r3,r4,r5,f0,f1,f2,f3,f4,f5⟩:=Box.all ((zu S8).v)
  go_wp2
  refine bodyPost_ret (v:= .tuple #[.agg #[.slice (some ⟨z.ga,0,none⟩) z.b.ac.length z.ca,.slice (some ⟨z.gi,0,none⟩) z.b.ic.length z.ci,.slice (some ⟨z.gb,0,none⟩) z.b.bs.length z.cb,.slice (some ⟨z.gl,0,none⟩) z.b.ls.length z.cl,.slice (some ⟨z.gt,0,none⟩) z.b.ts.length z.ct,.int .i64 z.b.lot],.int .i64 0,.int .i64 8]) (by simp[results,Tryz.results55,go_sem,r0,r1,r2,r3,r4,r5]) rfl (.inr ⟨zu TT,z,0,8,zu IZ,rfl,?_,?_⟩)
  ·exact ow_six (zu OZ) (off_lo (zu LZ) zl) _ _ _ _ _ _
  ·exact six (zu S8).b (by omega) _ _ _ _ _ _
 go_wp2_with fail
 refine(SCopy.sCopy _ x (zu S2).r).mono ?_
 rintro e w3 ⟨zc,hzc,rfl,oz,bb⟩
 have S3:=zh ((zu S2).step bb)
 have OZ:=zh (oz.rebase (zu S2).b.size)
 have HZ:=zh hzc
 have s2l:=(zu S2).v.lt
 clear bb oz hzc
 go_wp2_with fail
 refine(SLegs.sPairO _ fx fy ff am (by omega) a2).mono ?_
 rintro e w4 ⟨g1,rfl,o1,bb⟩
 have S4:=zh ((zu S3).step bb)
 have OZ:=zh ((zu OZ).below bb (Nat.le_refl _))
 have O1:=zh o1
 have s3l:=(zu S3).v.lt
 clear bb o1
 go_wp2_with fail
 refine(SLegs.sPairO _ fy fx ft q qb.1 qb.2).mono ?_
 rintro e w5 ⟨g2,rfl,o2,bb⟩
 have S5:=zh ((zu S4).step bb)
 have OZ:=zh ((zu OZ).below bb (Nat.le_refl _))
 have O1:=zh ((zu O1).below bb (zu O1).lt.2)
 have O2:=zh o2
 have s5:=bb.size
 clear bb o2
 have s4:w3.heap.size≤w5.heap.size:=by have:=(zu O1).lt;omega
 go_wp2_with (first|(at_builtin;refine wp_cat3 _ rfl _ _ rfl w3.heap.size g1 2 2 2 (pairL fx fy ff am) (pairL fy fx ft q) g2 2 rfl rfl (zu O1) rfl (zu O2).at (by omega) s4 ?_)|go_in)
 intro g3 cp3 w6 o3 gr
 have g1l:=(zu O1).lt
 have OFF:=zh (Off1 (zu OZ) (zu O1))
 have S6:=zh (SIssue.SR.grown (zu HR) (zu S5) gr (by omega))
 have OZ:=zh (ow_offk (zu OZ) gr (zu OFF))
 have O3:=zh (show Own3 181 w6 w3.heap.size g3 4 cp3 (legsF fx fy ff ft am q) from o3)
 clear o3 gr OFF
 have LF:=zh (fx_formed (zu TT).2.1 (zu TT).2.2.1 (zu TT).2.2.2.1 (zu TT).2.2.2.2.1 (show 0≤am by omega) a2 qb.1 qb.2)
 go_wp2_with fail
 refine(sPost w6 w.heap.size zc g3 cp3 (legsF fx fy ff ft am q) (zu OZ) (by rw[zu HZ];exact zu LI) (by rw[zu HZ];exact zu SM) (show 4≤1048576 by omega) (zu O3).lt.2 (zu O3).at (zu LF) (legsF_even fx fy ff ft am q)).mono ?_
 rintro e w7 ⟨y,k1,hpo,rfl,oy,bb⟩
 rw[zu HZ] at hpo
 have HP:=zh hpo
 have S7:=zh ((zu S6).step bb)
 have S8':=zh ((zu S7).step (one_more w7 (.cells #[.slice (some ⟨y.ga,0,none⟩) y.b.ac.length y.ca,.slice (some ⟨y.gi,0,none⟩) y.b.ic.length y.ci,.slice (some ⟨y.gb,0,none⟩) y.b.bs.length y.cb,.slice (some ⟨y.gl,0,none⟩) y.b.ls.length y.cl,.slice (some ⟨y.gt,0,none⟩) y.b.ts.length y.ct,.int .i64 y.b.lot] 44)))
 have OY:=zh oy
 have s7l:=(zu S7).v.lt
 have ne7:w.heap.size+1≠w7.heap.size:=by omega
 have ne8:w.heap.size≠w7.heap.size:=by omega
 clear bb hpo oy c0 c1 c2 c3 c4 c5 r0 r1 r2 r3 r4 r5 f0 f1 f2 f3 f4 f5
 by_cases kz:k1=0
 ·subst kz
  have IZ:=zh (show IsFx x.b fx fy ff ft am nu de y.b q 0 from .inr (.inr ⟨zu NZ,zu NK,q,r,true,zu TL,.inr ⟨rfl,y.b,0,zu HP,.inr ⟨rfl,rfl,rfl,rfl⟩⟩⟩))
  have F7:=zh (off_box (zu OY) (zu S7).v)
  clear NZ NK TL HP
  obtain⟨c0,c1,c2,c3,c4,c5⟩:=(zu S7).c
  obtain⟨r0,r1,r2,r3,r4,r5,f0,f1,f2,f3,f4,f5⟩:=Box.all ((zu S7).v)
  go_wp2
  refine to_wb (fun W=>Box W w.heap.size (w.heap.size+1) (.slice (some ⟨y.ga,0,none⟩) y.b.ac.length y.ca) (.slice (some ⟨y.gi,0,none⟩) y.b.ic.length y.ci) (.slice (some ⟨y.gb,0,none⟩) y.b.bs.length y.cb) (.slice (some ⟨y.gl,0,none⟩) y.b.ls.length y.cl) (.slice (some ⟨y.gt,0,none⟩) y.b.ts.length y.ct) (.int .i64 y.b.lot)∧Ow W w.heap.size y∧Below w.heap.size w W) ⟨box_six_alloc (zu S7).v _ _ _ _ _ _ _,ow_six_alloc (zu OY) (zu F7) (Nat.le_refl _) _ _ _ _ _ _ _,six_alloc (zu S7).b (zu S7).b.size (by omega) _ _ _ _ _ _ _⟩ ?_
  rintro W ⟨X,OW,B⟩
  have g0:=X.c0
  have g1:=X.c1
  have g2:=X.c2
  have g3:=X.c3
  have g4:=X.c4
  have g5:=X.c5
  exact bodyPost_ret (v:= .tuple #[.agg #[.slice (some ⟨y.ga,0,none⟩) y.b.ac.length y.ca,.slice (some ⟨y.gi,0,none⟩) y.b.ic.length y.ci,.slice (some ⟨y.gb,0,none⟩) y.b.bs.length y.cb,.slice (some ⟨y.gl,0,none⟩) y.b.ls.length y.cl,.slice (some ⟨y.gt,0,none⟩) y.b.ts.length y.ct,.int .i64 y.b.lot],.int .i64 q,.int .i64 0]) (by simp[results,Tryz.results55,go_sem,g0,g1,g2,g3,g4,g5]) rfl (.inr ⟨zu TT,y,q,0,zu IZ,rfl,OW,B⟩)
 ·have kb:(k1 !=0)=true:=ne_true kz
  have IE:=zh (show IsFx x.b fx fy ff ft am nu de x.b 0 k1 from .inr (.inr ⟨zu NZ,zu NK,q,r,true,zu TL,.inr ⟨rfl,y.b,k1,zu HP,.inl ⟨kz,rfl,rfl,rfl⟩⟩⟩))
  clear NZ NK TL HP kz
  obtain⟨c0,c1,c2,c3,c4,c5⟩:=(zu S8').c
  obtain⟨r0,r1,r2,r3,r4,r5,f0,f1,f2,f3,f4,f5⟩:=Box.all ((zu S8').v)
  go_wp2_with fail
  refine(SCopy.sCopy _ x (zu S8').r).mono ?_
  rintro e w8 ⟨z,hz,rfl,oz,bb⟩
  have S8:=zh ((zu S8').step bb)
  have OZ:=zh (oz.rebase (zu S8').b.size)
  have LZ:=zh (ow_lo oz)
  have zl:=(zu S8').v.lt.2
  have IZ:=zh (show IsFx x.b fx fy ff ft am nu de z.b 0 k1 from by rw[hz];exact(zu IE))
  clear bb oz hz
  clear c0 c1 c2 c3 c4 c5 r0 r1 r2 r3 r4 r5 f0 f1 f2 f3 f4 f5
  obtain⟨c0,c1,c2,c3,c4,c5⟩:=(zu S8).c
  obtain⟨r0,r1,r2,r3,r4,r5,f0,f1,f2,f3,f4,f5⟩:=Box.all ((zu S8).v)
  go_wp2
  refine bodyPost_ret (v:= .tuple #[.agg #[.slice (some ⟨z.ga,0,none⟩) z.b.ac.length z.ca,.slice (some ⟨z.gi,0,none⟩) z.b.ic.length z.ci,.slice (some ⟨z.gb,0,none⟩) z.b.bs.length z.cb,.slice (some ⟨z.gl,0,none⟩) z.b.ls.length z.cl,.slice (some ⟨z.gt,0,none⟩) z.b.ts.length z.ct,.int .i64 z.b.lot],.int .i64 0,.int .i64 k1]) (by simp[results,Tryz.results55,go_sem,r0,r1,r2,r3,r4,r5]) rfl (.inr ⟨zu TT,z,0,k1,zu IZ,rfl,?_,?_⟩)
  ·exact ow_six (zu OZ) (off_lo (zu LZ) zl) _ _ _ _ _ _
  ·exact six (zu S8).b (by omega) _ _ _ _ _ _
end SFx
end Go.Proofs.YtcjgepkdpkhljaaGreat
