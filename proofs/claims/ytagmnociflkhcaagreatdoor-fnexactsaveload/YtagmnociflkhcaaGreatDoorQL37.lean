/- Texts of one proof, one behind the other: IRows13. -/
import Derived.Test.YtagmnociflkhcaaGreatDoorRows
import Derived.Test.YtagmnociflkhcaaGreatDoorCards
import Derived.Test.YtagmnociflkhcaaGreatDoorTie
import Derived.Test.YtagmnociflkhcaaGreatDoorQL0
import Derived.Test.YtagmnociflkhcaaGreatDoorQL36
set_option linter.unusedVariables false
set_option linter.unusedSimpArgs false
open Go.ChangeShapes Go.WideShapes Go.ChangeAt Go.RowKit
set_option maxRecDepth 100000
set_option maxHeartbeats 32000000
namespace Go.Proofs.YtagmnociflkhcaaGreatDoor
namespace IRows13
open BMem Bks BHelp SRead13 VB13 ICl13
open SBytes (AtB getN getF AtBO)
open SPuts11 (gets getsN)
open SRows13 (rowsL rowsN)
open IRd11 (Pl cell_grown grow_below grow_grow)
open IInto13
open IBalsFit (one_more)
open SRead13 (row_kept)
variable {oz:Nat}
theorem getF_in(xs:List Int)(q:Nat):∀f k,(getF xs q f k).2.2=true→0≤(getF xs q f k).2.1∧(getF xs q f k).2.1≤xs.length
 |0,k=>by simp[getF]
 |f+1,k=>by
  intro h
  simp only[getF] at h⊢
  by_cases a:q+k<xs.length
  ·rw[if_pos a] at h⊢
   by_cases b:xs.getD (q+k) 0<128
   ·rw[if_pos b] at h⊢
    by_cases c:xs.getD (q+k) 0=0∧0<k
    ·rw[if_pos c] at h;simp at h
    ·rw[if_neg c];simp;omega
   ·rw[if_neg b] at h⊢
    exact getF_in xs q f (k+1) h
  ·rw[if_neg a] at h;simp at h
theorem getN_in{xs:List Int}{p:Int}(h:(getN xs p).2.2=true):0≤(getN xs p).2.1∧(getN xs p).2.1≤xs.length:=by
 unfold getN at h⊢
 by_cases a:p<0∨(xs.length:Int)≤p
 ·rw[if_pos a] at h;simp at h
 ·rw[if_neg a] at h⊢
  exact getF_in xs _ 9 0 h
theorem gets_in(xs:List Int):∀(m:Nat) (p:Int) (l:List Int),0≤p∧p≤xs.length→(gets xs m p l).2.2=true→0≤(gets xs m p l).2.1∧(gets xs m p l).2.1≤xs.length
 |0,p,l=>fun h _=>h
 |m+1,p,l=>by
  intro h k
  simp only[gets] at k⊢
  by_cases a:(getN xs p).2.2=true
  ·rw[if_pos a] at k⊢
   exact gets_in xs m _ _ (getN_in a) k
  ·rw[if_neg a] at k;simp at k
def lenk(k:Nat)(b:Bk):Nat:=match k with|0=>b.ac.length|1=>b.ic.length|2=>b.bs.length|3=>b.ls.length|_=>b.ts.length
theorem len_put(k:Nat)(rs:List (List Int))(b:Bk):lenk k (putRows k rs b)=rs.length:=by
 unfold lenk putRows
 split<;>simp
theorem put_put:∀(k:Nat) (rs:List (List Int)) (b:Bk),putRows k rs (putRows k [] b)=putRows k rs b
 |0,_,_=>rfl
 |1,_,_=>rfl
 |2,_,_=>rfl
 |3,_,_=>rfl
 |_+4,_,_=>rfl
def RowS(k:Nat)(r:List (List Int)×Int×Bool)(w0 W:World)(p D B N:Nat)(x:Ix)(e:Ending)(W':World):Prop:=
 (r.2.2=false∧Pan e∧Below w0.heap.size w0 W')∨(r.2.2=true∧e= .returned (.tuple #[])∧Kp W W'∧∃x',x'.b=putRows k r.1 x.b∧Rs w0 W' p D B N r.2.1 x')
theorem Rs.aside{w0 V V' V0:World}{p D B N d:Nat}{s s0:Int}{x:Ix}(h:Rs w0 V p D B N s x)(h0:Rs w0 V0 p D B N s0 x)(k:V.grownBy V' (some d))(hd:V0.heap.size≤d)(p1:p<N)(d1:D<N)(q1:B<N):Rs w0 V' p D B N s x:=by
 have n0:=h0.n
 have z:=h0.b.size
 exact⟨Ints.Own.kept h.pl k (by simp;omega),h.bx.kept k (fun e=>by injection e with e;omega),⟨World.ownsRow.kept h.o.oa k (row_out h0.o.oa hd),World.ownsRow.kept h.o.oi k (row_out h0.o.oi hd),World.ownsRow.kept h.o.ob k (row_out h0.o.ob hd),World.ownsRow.kept h.o.ol k (row_out h0.o.ol hd),World.ownsRow.kept h.o.ot k (row_out h0.o.ot hd)⟩,(k.block B h.ltB (fun e=>by injection e with e;omega)).trans h.q,h.b.grown k h.b.size (fun j hj=>by injection hj with hj;omega),Nat.le_trans h.n k.size⟩
theorem cell_heap{W:World}{g i:Nat}{c:Array Value}{t:TypeId}{v:Value}(h:W.heap[g]?=some (.cells c t (0,0)))(hv:c[i]?=some v):W.cell? ⟨g,i,none⟩=some v:=by
 simp[World.cell?,h,hv]
theorem set_grown(W:World)(b:Nat)(v:Value):W.grownBy (W.setCell ⟨b,0,none⟩ v) (some b):=
 ⟨rfl,rfl,rfl,by simp[World.setCell],fun k _ hk=>Below.heap_setCell _ _ _ k (fun e=>hk (by rw[e]))⟩
theorem four(W:World)(o1 o2 o3 o4:Obj):(((((W.alloc o1).alloc o2).alloc o3).alloc o4).heap[W.heap.size]?=some o1∧((((W.alloc o1).alloc o2).alloc o3).alloc o4).heap[W.heap.size+1]?=some o2)∧((((W.alloc o1).alloc o2).alloc o3).alloc o4).heap[W.heap.size+2]?=some o3∧((((W.alloc o1).alloc o2).alloc o3).alloc o4).heap[W.heap.size+3]?=some o4:=by
 refine⟨⟨?_,?_⟩,?_,?_⟩
 ·exact((one_more _ o4).block _ (by simp;omega)).trans (((one_more _ o3).block _ (by simp;omega)).trans (((one_more _ o2).block _ (by simp)).trans (heap_alloc_new W o1)))
 ·have h:=heap_alloc_new (W.alloc o1) o2
  rw[World.size_alloc] at h
  exact((one_more _ o4).block _ (by simp)).trans (((one_more _ o3).block _ (by simp)).trans h)
 ·have h:=heap_alloc_new ((W.alloc o1).alloc o2) o3
  rw[World.size_alloc,World.size_alloc] at h
  exact((one_more _ o4).block _ (by simp)).trans h
 ·have h:=heap_alloc_new (((W.alloc o1).alloc o2).alloc o3) o4
  rw[World.size_alloc,World.size_alloc,World.size_alloc] at h
  exact h
theorem iRows(k m K:Nat)(most:Int)(hm:most≤1000)(hm1:m≤2000)(w0 W:World)(gl cl p D B N:Nat)(xs:List Int)(et:TypeId)(ev:Value)(s:Int)(x:Ix)(b0:Bk)(G:Pg oz w0 gl cl p D B N xs et ev)(R:Rs w0 W p D B N s x)(hs:0≤s∧s≤xs.length)(hx:x.b=putRows k [] b0)
  (hK:∀(args:Array Value) (u:World),(callFunc K args).run Tryz.prog u= .ok (.enter K args) u)
  (HC:∀(V:World) (s':Int) (y:Ix),Rs w0 V p D B N s' y→s'≤9223372036854775807→lenk k y.b≤1000→Calls Tryz.prog K #[.agg #[.slice (some ⟨gl,oz,none⟩) xs.length cl,.pointer (some ⟨p,0,none⟩)],.pointer (some ⟨B,0,none⟩)] V (ClS k (gets xs m s' []) w0 V p D B N y)):
  Calls Tryz.prog 79 #[.agg #[.slice (some ⟨gl,oz,none⟩) xs.length cl,.pointer (some ⟨p,0,none⟩)],.agg #[.int .i64 most,.func (.func K) #[] #[.pointer (some ⟨B,0,none⟩)]]] W (RowS k (rowsN xs s m most) w0 W p D B N x):=by
 have GG:=zh G
 obtain⟨l0,l1,g,a,e,z,p0,p1,d0,d1,q0,q1,pd,pq,dq⟩:=G
 have nn:=R.n
 obtain⟨U,hU⟩:∃U,Hid (U=(((W.alloc (.cells #[.slice (some ⟨gl,oz,none⟩) xs.length cl,.pointer (some ⟨p,0,none⟩)] 92)).alloc (.cells #[.int .i64 most,.func (.func K) #[] #[.pointer (some ⟨B,0,none⟩)]] 127)).alloc (.cells #[.int .i64 0] 3)).alloc (.cells #[.pointer (some ⟨W.heap.size+2,0,none⟩)] 90)):=⟨_,rfl⟩
 have BU:=zh (show Below W.heap.size W U from by
  rw[zu hU]
  exact((((Below.refl _ _).alloc (Nat.le_refl _) _).alloc (by simp) _).alloc (by simp;omega) _).alloc (by simp;omega) _)
 have H1:=zh (show U.heap[W.heap.size]?=some (.cells #[.slice (some ⟨gl,oz,none⟩) xs.length cl,.pointer (some ⟨p,0,none⟩)] 92 (0,0)) from by rw[zu hU];exact(four W _ _ _ _).1.1)
 have H2:=zh (show U.heap[W.heap.size+1]?=some (.cells #[.int .i64 most,.func (.func K) #[] #[.pointer (some ⟨B,0,none⟩)]] 127 (0,0)) from by rw[zu hU];exact(four W _ _ _ _).1.2)
 have H3:=zh (show U.heap[W.heap.size+2]?=some (.cells #[.int .i64 0] 3 (0,0)) from by rw[zu hU];exact(four W _ _ _ _).2.1)
 have H4:=zh (show U.heap[W.heap.size+3]?=some (.cells #[.pointer (some ⟨W.heap.size+2,0,none⟩)] 90 (0,0)) from by rw[zu hU];exact(four W _ _ _ _).2.2)
 have us:U.heap.size=W.heap.size+4:=by rw[zu hU];simp
 have RU:=zh (R.step (zu BU))
 have MU:=zh (iMust1 U gl cl p w0.heap.size (W.heap.size+2) 0 (W.heap.size+3) 1 xs s 0 ev et (by omega) l0 l1 g (a.below (zu RU).b g) (zu RU).pl (by omega) (cell_heap (zu H3) rfl) (by simp[World.frozen?,zu H3]) (cell_heap (zu H4) rfl) (by omega) (by omega) (by omega) (((zu RU).b.cell (p:=⟨0,0,none⟩) z).trans e) z)
 have RW:=zh R
 have FIN:=zh (show rowsN xs s m most=if(getN xs s).2.2=true∧(getN xs s).1≤most then rowsL xs m (getN xs s).1.toNat (getN xs s).2.1 [] else([],0,false) from rfl)
 have NI:=zh (@getN_in xs s)
 have NL:=zh (@getN_lt xs s)
 have HH:=zh HC
 have HX:=zh hx
 clear a e R HC hx
 generalize rowsN xs s m most=fin at *
 generalize getN xs s=r at *
 obtain⟨v,s',ok⟩:=r
 obtain⟨f0,f1,f2⟩:=fin
 go_enter Tryz.func79,Tryz.ntmps79
 go_wp2_with fail
 rw[←zu hU]
 refine(zu MU).mono ?_
 rintro e u (⟨h1,⟨eu,ee,rfl⟩,h3⟩|⟨h1,rfl,u1,h3,h4,rfl⟩)
 ·have F:=zu FIN
  rw[if_neg (fun q=>by simp only at h1;rw[h1] at q;simp at q)] at F
  injection F with F0 F
  injection F with F1 F2
  subst F0 F1 F2
  exact⟨rfl,.inl ⟨rfl,⟨eu,ee,rfl⟩,(zu RU).b.grown h3 (zu RU).b.size (fun j hj=>by injection hj with hj;omega)⟩⟩
 simp only at h1
 subst h1
 have GV:=set_grown u1 (W.heap.size+2) (.int .i64 v)
 have R1:=zh ((zu RU).moved h3 p0 p1 pd pq h4)
 have T3:∃c,u1.heap[W.heap.size+2]?=some (.cells c 3 (0,0)):=⟨_,(h3.block (W.heap.size+2) (by omega) (by simp;omega)).trans (zu H3)⟩
 have KV:=zh (show Kp U (u1.setCell ⟨W.heap.size+2,0,none⟩ (.int .i64 v)) from(Kp.grown h3 (fun j hj=>by injection hj with hj;subst hj;exact(zu RU).typP)).trans (Kp.grown GV (fun j hj=>by injection hj with hj;subst hj;obtain⟨c,hc⟩:=T3;exact⟨_,hc,rfl⟩)))
 have R2:=zh (Rs.aside (zu R1) (zu RW) GV (by omega) p1 d1 q1)
 have c3:(u1.setCell ⟨W.heap.size+2,0,none⟩ (.int .i64 v)).cell? ⟨W.heap.size+2,0,none⟩=some (.int .i64 v):=by
  have q:=(h3.block (W.heap.size+2) (by omega) (by simp;omega)).trans (zu H3)
  have:u1.cell? ⟨W.heap.size+2,0,none⟩=some (.int .i64 0):=cell_heap q rfl
  simp[go_sem,this]
 generalize u1.setCell ⟨W.heap.size+2,0,none⟩ (.int .i64 v)=V at *
 clear GV T3 h3 h4 R1 MU RU H3 H4
 have hv0:=(zu NL) rfl
 have hs':=(zu NI) rfl
 clear NL NI
 have HV1:=zh ((zu KV) _ _ (zu H1) rfl)
 have HV2:=zh ((zu KV) _ _ (zu H2) rfl)
 have c10:V.cell? ⟨W.heap.size,0,none⟩=some (.slice (some ⟨gl,oz,none⟩) xs.length cl):=cell_heap (zu HV1) rfl
 have c11:V.cell? ⟨W.heap.size,1,none⟩=some (.pointer (some ⟨p,0,none⟩)):=cell_heap (zu HV1) rfl
 have c20:V.cell? ⟨W.heap.size+1,0,none⟩=some (.int .i64 most):=cell_heap (zu HV2) rfl
 have c21:V.cell? ⟨W.heap.size+1,1,none⟩=some (.func (.func K) #[] #[.pointer (some ⟨B,0,none⟩)]):=cell_heap (zu HV2) rfl
 have e0:V.cell? ⟨0,0,none⟩=some (.iface et ev):=((zu R2).b.cell (p:=⟨0,0,none⟩) z).trans (zu GG).e
 unfold Fm at hv0
 by_cases hq:v≤most
 case neg=>
  have hq':v>most:=by omega
  have F:=zu FIN
  rw[if_neg (fun q=>hq q.2)] at F
  injection F with F0 F
  injection F with F1 F2
  subst F0 F1 F2
  clear FIN hq
  go_wp2
  exact⟨rfl,.inl ⟨rfl,⟨_,_,rfl⟩,(zu R2).b⟩⟩
 have F:=zu FIN
 rw[if_pos ⟨rfl,hq⟩] at F
 obtain⟨n,rfl⟩:∃n:Nat,v=n:=⟨v.toNat,by omega⟩
 have FN:=zh (show(f0,f1,f2)=rowsL xs m (n-0) s' [] from by rw[F];simp)
 clear F FIN
 have hq1:¬(n:Int)>most:=by omega
 have KW:=zh ((Kp.below (zu BU)).trans (zu KV))
 have hn:n≤1000:=by omega
 go_wp2
 clear c10 c11 c20 c21 e0 c3
 go_loopw [14] (fun i wr=>∃(j:Nat) (t:Int) (rows:List (List Int)) (y:Ix),i= .int .i64 j∧j≤n∧Hid ((f0,f1,f2)=rowsL xs m (n-j) t rows)∧Hid (rows.length=j)∧Hid (y.b=putRows k rows b0)∧Hid (Rs w0 wr p D B N t y)∧Hid (Kp W wr)∧Hid (Kp U wr)∧0≤t∧t≤xs.length) (fun i _=>n-(intOf i).toNat)
 case atStart=>exact⟨0,s',[],x,rfl,by omega,FN,zh rfl,HX,R2,KW,KV,hs'.1,hs'.2⟩
 case round=>
  clear FN KW KV R2
  obtain⟨j,t,rows,y,rfl,hj,FJ,RL,YB,RJ,KJ,KU,t0,t1⟩:=hrel
  have HV1:=zh ((zu KU) _ _ (zu H1) rfl)
  have HV2:=zh ((zu KU) _ _ (zu H2) rfl)
  have c10:wr.cell? ⟨W.heap.size,0,none⟩=some (.slice (some ⟨gl,oz,none⟩) xs.length cl):=cell_heap (zu HV1) rfl
  have c11:wr.cell? ⟨W.heap.size,1,none⟩=some (.pointer (some ⟨p,0,none⟩)):=cell_heap (zu HV1) rfl
  have c21:wr.cell? ⟨W.heap.size+1,1,none⟩=some (.func (.func K) #[] #[.pointer (some ⟨B,0,none⟩)]):=cell_heap (zu HV2) rfl
  by_cases h:j<n
  case neg=>
   have ej:j=n:=by omega
   subst ej
   have F:=zu FJ
   rw[Nat.sub_self] at F
   simp only[rowsL] at F
   injection F with F0 F
   injection F with F1 F2
   subst F0 F1 F2
   clear FJ
   go_wp2
   go_end0
   exact .inr ⟨rfl,rfl,zu KJ,y,(zu YB).trans (by rw[zu HX,put_put]),zu RJ⟩
  have jn:(j:Int)<n:=by omega
  have NX:=zh (show(f0,f1,f2)=if(gets xs m t []).2.2=true then rowsL xs m (n-(j+1)) (gets xs m t []).2.1 (rows++[(gets xs m t []).1]) else(rows,0,false) from by
   have q:getsN xs t m=gets xs m t []:=by unfold getsN;rw[if_pos ⟨by omega,t0,t1⟩];simp
   rw[zu FJ,show n-j=(n-(j+1))+1 by omega]
   simp only[rowsL,q])
  have CL:=zh ((zu HH) wr t y (zu RJ) (by omega) (by rw[zu YB,len_put,zu RL];omega))
  have GI:=zh (gets_in xs m t [] ⟨t0,t1⟩)
  clear FJ
  generalize gets xs m t []=r at *
  obtain⟨l,t',ok⟩:=r
  go_wp2_with fail
  refine(zu CL).mono ?_
  rintro e u (⟨h1,⟨eu,ee,rfl⟩,h3⟩|⟨h1,rfl,h3,y',h4,h5⟩)
  ·have F:=zu NX
   rw[if_neg (fun q=>by simp only at h1;rw[h1] at q;simp at q)] at F
   injection F with F0 F
   injection F with F1 F2
   subst F0 F1 F2
   exact⟨rfl,.inl ⟨rfl,⟨eu,ee,rfl⟩,h3⟩⟩
  simp only at h1
  subst h1
  have F:=zu NX
  rw[if_pos rfl] at F
  have FJ:=zh F
  have ti:=(zu GI) rfl
  have RJ':=zh h5
  have KJ':=zh ((zu KJ).trans h3)
  have KU':=zh ((zu KU).trans h3)
  have YB':=zh (show y'.b=putRows k (rows++[l]) b0 from by rw[h4,zu YB,add_put])
  clear F h3 h4 h5 NX GI CL c10 c11 c21
  go_wp2
  go_roundw
  case rel=>exact⟨j+1,t',rows++[l],y',by go_num,by omega,FJ,zh (by simp[zu RL]),YB',RJ',KJ',KU',ti.1,ti.2⟩
  case measure=>simp[intOf];omega
end IRows13
end Go.Proofs.YtagmnociflkhcaaGreatDoor
