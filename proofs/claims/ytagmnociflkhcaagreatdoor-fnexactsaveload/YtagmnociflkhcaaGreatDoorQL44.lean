/- Texts of one proof, one behind the other: ITab13, IRead13. -/
import Derived.Test.YtagmnociflkhcaaGreatDoorRows
import Derived.Test.YtagmnociflkhcaaGreatDoorCards
import Derived.Test.YtagmnociflkhcaaGreatDoorTie
import Derived.Test.YtagmnociflkhcaaGreatDoorQL0
import Derived.Test.YtagmnociflkhcaaGreatDoorQL37
import Derived.Test.YtagmnociflkhcaaGreatDoorQL43
set_option linter.unusedVariables false
set_option linter.unusedSimpArgs false
open Go.ChangeShapes Go.WideShapes Go.ChangeAt Go.RowKit
set_option maxRecDepth 100000
set_option maxHeartbeats 32000000
namespace Go.Proofs.YtagmnociflkhcaaGreatDoor
namespace ITab13
open BMem Bks BHelp SRead13 VB13 ICl13 IRows13 BMemV13
open SBytes (AtB getN getF AtBO)
open SPuts11 (gets getsN)
open SRows13 (rowsL rowsN)
open IRd11 (Pl cell_grown grow_below grow_grow)
open IInto13
open IBalsFit (one_more)
open SRead13 (row_kept)
open Lots (Says says_of)
variable {oz:Nat}
def fk:Nat→Nat|0=>97|1=>98|2=>99|3=>100|_=>101
def tabC(B:Nat):Array Value:= #[.int .i64 20,.func (.func 97) #[] #[.pointer (some ⟨B,0,none⟩)],.int .i64 8,.func (.func 98) #[] #[.pointer (some ⟨B,0,none⟩)],.int .i64 160,.func (.func 99) #[] #[.pointer (some ⟨B,0,none⟩)],.int .i64 120,.func (.func 100) #[] #[.pointer (some ⟨B,0,none⟩)],.int .i64 30,.func (.func 101) #[] #[.pointer (some ⟨B,0,none⟩)]]
theorem tab_at(B k:Nat)(h:k<5):(tabC B)[k*2]?=some (.int .i64 (ms k))∧(tabC B)[k*2+1]?=some (.func (.func (fk k)) #[] #[.pointer (some ⟨B,0,none⟩)]):=by
 have:k=0∨k=1∨k=2∨k=3∨k=4:=by omega
 rcases this with rfl|rfl|rfl|rfl|rfl<;>exact⟨rfl,rfl⟩
theorem iTab(W:World)(D:Nat):Calls Tryz.prog 78 #[.pointer (some ⟨D,0,none⟩)] W fun e W'=>e= .returned (.slice (some ⟨W.heap.size+1,0,none⟩) 5 5)∧W'=(W.alloc (.cells #[.pointer (some ⟨D,0,none⟩)] 124)).alloc (.cells (tabC W.heap.size) 127):=by
 have hmf:∀(fn:Fn) (first cp:Array Value) (w:World),(Instr.makeFunc fn first cp).run Tryz.prog w= .ok (.func fn first cp) w:=fun _ _ _ _=>rfl
 unfold tabC
 go_enter Tryz.func78,Tryz.ntmps78
 go_wp2
 go_ret
 exact⟨rfl,rfl⟩
theorem enK(k:Nat)(h:k<5)(args:Array Value)(u:World):(callFunc (fk k) args).run Tryz.prog u= .ok (.enter (fk k) args) u:=by
 have:k=0∨k=1∨k=2∨k=3∨k=4:=by omega
 rcases this with rfl|rfl|rfl|rfl|rfl
 ·exact IRead.enters Tryz.func97 (by kernel_rfl) rfl _ _
 ·exact IRead.enters Tryz.func98 (by kernel_rfl) rfl _ _
 ·exact IRead.enters Tryz.func99 (by kernel_rfl) rfl _ _
 ·exact IRead.enters Tryz.func100 (by kernel_rfl) rfl _ _
 ·exact IRead.enters Tryz.func101 (by kernel_rfl) rfl _ _
theorem clK(k:Nat)(h:k<5)(w0 W:World)(gl cl p D B N:Nat)(xs:List Int)(et:TypeId)(ev:Value)(s:Int)(x:Ix)(G:Pg oz w0 gl cl p D B N xs et ev)(R:Rs w0 W p D B N s x)(hs:s≤9223372036854775807)(hl:lenk k x.b≤1000):
  Calls Tryz.prog (fk k) #[.agg #[.slice (some ⟨gl,oz,none⟩) xs.length cl,.pointer (some ⟨p,0,none⟩)],.pointer (some ⟨B,0,none⟩)] W (ClS k (gets xs (wd k) s []) w0 W p D B N x):=by
 have:k=0∨k=1∨k=2∨k=3∨k=4:=by omega
 rcases this with rfl|rfl|rfl|rfl|rfl
 ·exact cl0 w0 W gl cl p D B N xs et ev s x G R hs hl
 ·exact cl1 w0 W gl cl p D B N xs et ev s x G R hs hl
 ·exact cl2 w0 W gl cl p D B N xs et ev s x G R hs hl
 ·exact cl3 w0 W gl cl p D B N xs et ev s x G R hs hl
 ·exact cl4 w0 W gl cl p D B N xs et ev s x G R hs hl
theorem iRowsK(k:Nat)(h:k<5)(w0 W:World)(gl cl p D B N:Nat)(xs:List Int)(et:TypeId)(ev:Value)(s:Int)(x:Ix)(G:Pg oz w0 gl cl p D B N xs et ev)(R:Rs w0 W p D B N s x)(hs:0≤s∧s≤xs.length)(hx:x.b=putRows k [] x.b):
  Calls Tryz.prog 79 #[.agg #[.slice (some ⟨gl,oz,none⟩) xs.length cl,.pointer (some ⟨p,0,none⟩)],.agg #[.int .i64 (ms k),.func (.func (fk k)) #[] #[.pointer (some ⟨B,0,none⟩)]]] W (RowS k (rowsN xs s (wd k) (ms k)) w0 W p D B N x):=by
 have m1:ms k≤1000∧wd k≤2000:=by
  have:k=0∨k=1∨k=2∨k=3∨k=4:=by omega
  rcases this with rfl|rfl|rfl|rfl|rfl<;>decide
 exact iRows k (wd k) (fk k) (ms k) m1.1 m1.2 w0 W gl cl p D B N xs et ev s x x.b G R hs hx (enK k h) (fun V s' y R' h1 h2=>clK k h w0 V gl cl p D B N xs et ev s' y G R' h1 h2)
def Emp13(k:Nat)(b:Bk):Prop:=∀j,k≤j→j<5→b=putRows j [] b
theorem emp_next:∀(k:Nat) (rs:List (List Int)) (b:Bk),k<5→Emp13 k b→Emp13 (k+1) (putRows k rs b):=by
 intro k rs b hk h j h1 h2
 have:k=0∨k=1∨k=2∨k=3∨k=4:=by omega
 have hj:j=1∨j=2∨j=3∨j=4:=by omega
 have e:=h j (by omega) h2
 obtain⟨a1,a2,a3,a4,a5,a6⟩:=b
 rcases this with rfl|rfl|rfl|rfl|rfl<;>rcases hj with rfl|rfl|rfl|rfl<;>first|(exfalso;omega)|(simp only[putRows,Bk.mk.injEq] at e⊢;simp_all)
def Sm13(b:Bk):Prop:=b.ac.length≤1000∧b.ic.length≤1000∧b.bs.length≤1000∧b.ls.length≤1000∧b.ts.length≤1000
theorem sm_next(k:Nat)(rs:List (List Int))(b:Bk)(hk:k<5)(h:Sm13 b)(hr:rs.length≤1000):Sm13 (putRows k rs b):=by
 have:k=0∨k=1∨k=2∨k=3∨k=4:=by omega
 obtain⟨h1,h2,h3,h4,h5⟩:=h
 rcases this with rfl|rfl|rfl|rfl|rfl<;>simp[Sm13,putRows]<;>omega
theorem sm_small{b:Bk}(h:Sm13 b):Small b:=by
 obtain⟨h1,h2,h3,h4,h5⟩:=h
 exact⟨by omega,by omega,by omega,by omega,by omega⟩
theorem rowsL_pos{xs:List Int}{wide:Nat}:∀(m:Nat) (p:Int) (l:List (List Int)),0≤p∧p≤xs.length→(rowsL xs wide m p l).2.2=true→0≤(rowsL xs wide m p l).2.1∧(rowsL xs wide m p l).2.1≤xs.length
 |0,p,l=>fun h _=>h
 |m+1,p,l=>by
  intro h k
  simp only[rowsL] at k⊢
  by_cases a:(getsN xs p wide).2.2=true
  ·rw[if_pos a] at k⊢
   refine rowsL_pos m _ _ ?_ k
   unfold getsN at a⊢
   by_cases c:(0≤(wide:Int)∧(wide:Int)≤2000)∧0≤p∧p≤xs.length
   ·rw[if_pos c] at a⊢
    exact gets_in xs _ p [] h a
   ·rw[if_neg c] at a;simp at a
  ·rw[if_neg a] at k;simp at k
theorem rows_in{xs:List Int}{p:Int}{wide:Nat}{most:Int}(h:(rowsN xs p wide most).2.2=true):0≤(rowsN xs p wide most).2.1∧(rowsN xs p wide most).2.1≤xs.length:=by
 unfold rowsN at h⊢
 by_cases c:(getN xs p).2.2=true∧(getN xs p).1≤most
 ·rw[if_pos c] at h⊢
  exact rowsL_pos _ _ _ (getN_in c.1) h
 ·rw[if_neg c] at h;simp at h
def ReadP(r:Bk×Bool)(w:World)(e:Ending)(w':World):Prop:=
 (r.2=false∧Pan e∧Below w.heap.size w w')∨(r.2=true∧∃x:Ix,x.b=r.1∧e= .returned (.agg #[.slice x.aa x.b.ac.length x.ca,.slice x.ai x.b.ic.length x.ci,.slice x.ab x.b.bs.length x.cb,.slice x.al x.b.ls.length x.cl,.slice x.ats x.b.ts.length x.ct,.int .i64 x.b.lot])∧OwV w' w.heap.size x∧Below w.heap.size w w')
end ITab13
namespace IRead13
open BMem Bks BHelp SRead13 VB13 ICl13 IRows13 BMemV13 ITab13
open SBytes (AtB getN getF AtBO)
open SRows13 (rowsL rowsN)
open IRd11 (Pl cell_grown grow_below grow_grow)
open IInto13
open IBalsFit (one_more)
open SRead13 (row_kept)
open Lots (Says says_of)
variable {oz:Nat}
def zeroX:Ix:=⟨none,0,none,0,none,0,none,0,none,0,zeroB⟩
theorem zero_own(W:World)(N:Nat):OwV W N zeroX:=⟨World.ownsRow_nil W N _ _,World.ownsRow_nil W N _ _,World.ownsRow_nil W N _ _,World.ownsRow_nil W N _ _,World.ownsRow_nil W N _ _⟩
theorem zero_emp:Emp13 0 zeroB:=by
 intro j _ h
 have:j=0∨j=1∨j=2∨j=3∨j=4:=by omega
 rcases this with rfl|rfl|rfl|rfl|rfl<;>rfl
theorem zero_sm:Sm13 zeroB:=by simp[Sm13,zeroB]
abbrev ZC:Obj:= .cells #[.slice none 0 0,.slice none 0 0,.slice none 0 0,.slice none 0 0,.slice none 0 0,.int .i64 0] 32
abbrev RC(oz gl n cl p:Nat):Obj:= .cells #[.slice (some ⟨gl,oz,none⟩) n cl,.pointer (some ⟨p,0,none⟩)] 92
abbrev U0(oz:Nat)(w:World)(gl n cl:Nat):World:=(((w.alloc ZC).alloc ZC).alloc (.cells #[.int .i64 0] 3)).alloc (RC oz gl n cl (w.heap.size+2))
abbrev U1(oz:Nat)(w:World)(gl n cl:Nat):World:=((U0 oz w gl n cl).alloc (.cells #[.pointer (some ⟨w.heap.size+1,0,none⟩)] 124)).alloc (.cells (tabC (w.heap.size+4)) 127)
theorem u0_size(w:World)(gl n cl:Nat):(U0 oz w gl n cl).heap.size=w.heap.size+4:=by simp
theorem u1_size(w:World)(gl n cl:Nat):(U1 oz w gl n cl).heap.size=w.heap.size+6:=by simp
theorem al(W:World)(o:Obj):Below W.heap.size W (W.alloc o):=one_more W o
theorem u1_below(w:World)(gl n cl:Nat):Below (w.alloc ZC).heap.size (w.alloc ZC) (U1 oz w gl n cl):=
 (((((Below.refl _ _).alloc (Nat.le_refl _) _).alloc (by simp) _).alloc (by simp;try omega) _).alloc (by simp;try omega) _).alloc (by simp;try omega) _
theorem u1_rs(w:World)(gl n cl:Nat):Rs (w.alloc ZC) (U1 oz w gl n cl) (w.heap.size+2) (w.heap.size+1) (w.heap.size+4) (w.heap.size+6) 0 zeroX:=by
 have s0:(w.alloc ZC).heap.size=w.heap.size+1:=by simp
 have s1:((w.alloc ZC).alloc ZC).heap.size=w.heap.size+2:=by simp
 refine⟨?_,?_,zero_own _ _,?_,u1_below w gl n cl,by rw[u1_size];exact Nat.le_refl _⟩
 ·have h:=IRd11.pl_box ((w.alloc ZC).alloc ZC) (w.alloc ZC).heap.size (g:=w.heap.size+2) 0 (by simp) s1.symm
  exact IRd11.pl_alloc (IRd11.pl_alloc (IRd11.pl_alloc h _) _) _
 ·have h:=Box.made (w:=w.alloc ZC) (base:=(w.alloc ZC).heap.size) (g:=w.heap.size+1) (.slice none 0 0) (.slice none 0 0) (.slice none 0 0) (.slice none 0 0) (.slice none 0 0) (.int .i64 0) (Nat.le_refl _) s0.symm
  have q:∀{W:World} (o:Obj),Box W (w.alloc ZC).heap.size (w.heap.size+1) (.slice none 0 0) (.slice none 0 0) (.slice none 0 0) (.slice none 0 0) (.slice none 0 0) (.int .i64 0)→Box (W.alloc o) (w.alloc ZC).heap.size (w.heap.size+1) (.slice none 0 0) (.slice none 0 0) (.slice none 0 0) (.slice none 0 0) (.slice none 0 0) (.int .i64 0):=fun{W} o h=>h.below (al W o) h.lt.2
  exact q _ (q _ (q _ (q _ h)))
 ·have h:=heap_alloc_new (U0 oz w gl n cl) (.cells #[.pointer (some ⟨w.heap.size+1,0,none⟩)] 124)
  rw[u0_size] at h
  exact((al _ _).block _ (by rw[World.size_alloc,u0_size];omega)).trans h
theorem u1_rd(w:World)(gl n cl:Nat):(U1 oz w gl n cl).heap[w.heap.size+3]?=some (RC oz gl n cl (w.heap.size+2)):=by
 have h:=heap_alloc_new (((w.alloc ZC).alloc ZC).alloc (.cells #[.int .i64 0] 3)) (RC oz gl n cl (w.heap.size+2))
 rw[show(((w.alloc ZC).alloc ZC).alloc (.cells #[.int .i64 0] 3)).heap.size=w.heap.size+3 by simp] at h
 exact((al _ _).block _ (by rw[World.size_alloc,u0_size];omega)).trans (((al _ _).block _ (by rw[u0_size];omega)).trans h)
theorem u1_tab(w:World)(gl n cl:Nat):(U1 oz w gl n cl).heap[w.heap.size+5]?=some (.cells (tabC (w.heap.size+4)) 127 (0,0)):=by
 have h:=heap_alloc_new ((U0 oz w gl n cl).alloc (.cells #[.pointer (some ⟨w.heap.size+1,0,none⟩)] 124)) (.cells (tabC (w.heap.size+4)) 127)
 rw[World.size_alloc,u0_size] at h
 exact h
theorem tab13(w:World)(gl n cl:Nat):Calls Tryz.prog 78 #[.pointer (some ⟨w.heap.size+1,0,none⟩)] (U0 oz w gl n cl) fun e W'=>e= .returned (.slice (some ⟨w.heap.size+5,0,none⟩) 5 5)∧W'=U1 oz w gl n cl:=by
 have h:=iTab (U0 oz w gl n cl) (w.heap.size+1)
 rw[u0_size] at h
 exact h
theorem iReadBooks(w:World)(gl cl:Nat)(xs:List Int)(et:TypeId)(ev:Value)(h20:xs.length≤1048576)(hc:xs.length≤cl)(hg:gl<w.heap.size)(hr:AtBO w gl oz xs)(he:w.cell? ⟨0,0,none⟩=some (.iface et ev)):
  Calls Tryz.prog 45 #[.slice (some ⟨gl,oz,none⟩) xs.length cl] w (ReadP (readB xs) w):=by
 have sn:∀(w:World) (a:Addr) (fn:Fn) (x y:Array Value) (m),(store a (.func fn x y) m).run Tryz.prog w=stored Tryz.prog w a (.func fn x y) m:=fun w a fn x y m=>run_store Tryz.prog w a _ m rfl
 have hz:0<w.heap.size:=by omega
 have s0:(w.alloc ZC).heap.size=w.heap.size+1:=by simp
 have GG:=zh (show Pg oz (w.alloc ZC) gl cl (w.heap.size+2) (w.heap.size+1) (w.heap.size+4) (w.heap.size+6) xs et ev from
  ⟨h20,hc,by omega,hr.below (al _ _) hg,((al w ZC).cell (p:=⟨0,0,none⟩) hz).trans he,by omega,by omega,by omega,by omega,by omega,by omega,by omega,by omega,by omega,by omega⟩)
 have TB:=zh (tab13 (oz:=oz) w gl xs.length cl)
 have RV:=zh (u1_rs (oz:=oz) w gl xs.length cl)
 have HV1:=zh (u1_rd (oz:=oz) w gl xs.length cl)
 have HV2:=zh (u1_tab (oz:=oz) w gl xs.length cl)
 have FIN:=zh (show endB xs (readF xs (5-0) 0 zeroX.b)=readB xs from rfl)
 generalize readB xs=fin at *
 clear hr he
 go_enter Tryz.func45,Tryz.ntmps45
 go_wp2_with fail
 rw[show w.heap.size+1+1+1=w.heap.size+3 from rfl,show w.heap.size+1+1=w.heap.size+2 from rfl]
 refine(zu TB).mono ?_
 rintro e V ⟨rfl,hV⟩
 rw[←hV] at RV HV1 HV2
 clear TB hV
 go_wp2
 go_loopw [7,13] (fun _ i wr=>∃(k:Nat) (t:Int) (x:Ix),i= .int .i64 k∧k≤5∧Hid (endB xs (readF xs (5-k) t x.b)=fin)∧Hid (Rs (w.alloc ZC) wr (w.heap.size+2) (w.heap.size+1) (w.heap.size+4) (w.heap.size+6) t x)∧Hid (Kp V wr)∧Hid (Emp13 k x.b)∧Hid (Sm13 x.b)∧0≤t∧t≤xs.length) (fun _ i _=>5-(intOf i).toNat)
 case atStart=>exact⟨0,0,zeroX,rfl,by omega,FIN,RV,zh (Kp.refl _),zh zero_emp,zh zero_sm,by omega,by omega⟩
 case round=>
  clear FIN RV
  obtain⟨k,t,x,rfl,hk,FJ,RJ,KJ,EJ,SJ,t0,t1⟩:=hrel
  have HR1:=zh ((zu KJ) _ _ (zu HV1) rfl)
  have c0:wr.cell? ⟨w.heap.size+3,0,none⟩=some (.slice (some ⟨gl,oz,none⟩) xs.length cl):=cell_heap (zu HR1) rfl
  have c1:wr.cell? ⟨w.heap.size+3,1,none⟩=some (.pointer (some ⟨w.heap.size+2,0,none⟩)):=cell_heap (zu HR1) rfl
  have rn:=(zu RJ).n
  have r3:w.heap.size+3<wr.heap.size:=by omega
  by_cases h:k<5
  ·have HR2:=zh ((zu KJ) _ _ (zu HV2) rfl)
   have d0:wr.cell? ⟨w.heap.size+5,k*2,none⟩=some (.int .i64 (ms k)):=cell_heap (zu HR2) (tab_at _ k h).1
   have d1:wr.cell? ⟨w.heap.size+5,k*2+1,none⟩=some (.func (.func (fk k)) #[] #[.pointer (some ⟨w.heap.size+4,0,none⟩)]):=cell_heap (zu HR2) (tab_at _ k h).2
   have B1:=zh (al wr (.cells #[.int .i64 (ms k),.func (.func (fk k)) #[] #[.pointer (some ⟨w.heap.size+4,0,none⟩)]] 127))
   have R1:=zh ((zu RJ).step (zu B1))
   have CL:=zh (iRowsK k h (w.alloc ZC) _ gl cl (w.heap.size+2) (w.heap.size+1) (w.heap.size+4) (w.heap.size+6) xs et ev t x (zu GG) (zu R1) ⟨t0,t1⟩ ((zu EJ) k (Nat.le_refl _) h))
   have NX:=zh (show endB xs (if(rowsN xs t (wd k) (ms k)).2.2=true then readF xs (5-(k+1)) (rowsN xs t (wd k) (ms k)).2.1 (putRows k (rowsN xs t (wd k) (ms k)).1 x.b) else none)=fin from by
    rw[←zu FJ,show 5-k=(4-k)+1 by omega]
    simp only[readF]
    rw[show 4-(4-k)=k by omega,show 5-(k+1)=4-k by omega])
   have RI:=zh (rowsN_in (xs:=xs) (p:=t) (wide:=wd k) (most:=ms k) (by
    have:k=0∨k=1∨k=2∨k=3∨k=4:=by omega
    rcases this with rfl|rfl|rfl|rfl|rfl<;>decide))
   have RP:=zh (@rows_in xs t (wd k) (ms k))
   have k5:(k:Int)<5:=by omega
   clear FJ
   generalize rowsN xs t (wd k) (ms k)=r at *
   obtain⟨rs,t',ok⟩:=r
   generalize ms k=mk at *
   generalize fk k=ff at *
   go_wp2_with fail
   refine(zu CL).mono ?_
   rintro e u (⟨h1,⟨eu,ee,rfl⟩,h3⟩|⟨h1,rfl,h3,y',h4,h5⟩)
   ·have F:=zu NX
    rw[if_neg (fun q=>by simp only at h1;rw[h1] at q;simp at q)] at F
    subst F
    exact⟨rfl,.inl ⟨rfl,⟨eu,ee,rfl⟩,(al w ZC).trans (h3.mono (by simp))⟩⟩
   simp only at h1
   subst h1
   have F:=zu NX
   rw[if_pos rfl] at F
   simp only at h4 h5
   rw[←h4] at F
   have FJ:=zh F
   obtain⟨rw0,rl⟩:=(zu RI) rfl
   have ti:=(zu RP) rfl
   have RJ':=zh h5
   have KJ':=zh (((zu KJ).trans (Kp.below (zu B1))).trans h3)
   have EJ':=zh (show Emp13 (k+1) y'.b from by rw[h4];exact emp_next k rs x.b h (zu EJ))
   have SJ':=zh (show Sm13 y'.b from by rw[h4];exact sm_next k rs x.b h (zu SJ) rl)
   clear F h3 h4 h5 NX RI RP CL c0 c1 d0 d1 rw0 rl
   go_wp2
   go_roundw
   case rel=>exact⟨k+1,t',y',by go_num,by omega,FJ,RJ',KJ',EJ',SJ',ti.1,ti.2⟩
   case measure=>simp[intOf];omega
  ·have e5:k=5:=by omega
   subst e5
   have FE:=zh (show endY (getN xs t) xs.length x.b=fin from zu FJ)
   have hb:=(zu RJ).b
   have bx:=(zu RJ).bx
   have PC:=zh (al wr (.cells #[.pointer (some ⟨w.heap.size+1,5,none⟩)] 90))
   have R1:=zh ((zu RJ).step (zu PC))
   have MU:=zh (iMust1 (wr.alloc (.cells #[.pointer (some ⟨w.heap.size+1,5,none⟩)] 90)) gl cl (w.heap.size+2) (w.alloc ZC).heap.size (w.heap.size+1) 5 wr.heap.size 1 xs t x.b.lot ev et (by omega) h20 hc (by omega) ((zu GG).a.below (zu R1).b (by omega)) (zu R1).pl (by simp;omega) (zu R1).bx.c5 ((zu R1).bx.free 5) (by simp) (by simp) (by omega) (by omega) (((zu R1).b.cell (p:=⟨0,0,none⟩) (zu GG).z).trans (zu GG).e) (by omega))
   clear FJ hb bx HV1 HV2
   generalize getN xs t=r at *
   obtain⟨v,t',ok⟩:=r
   go_wp2_with fail
   refine(zu MU).mono ?_
   rintro e u (⟨h1,⟨eu,ee,rfl⟩,h3⟩|⟨h1,rfl,u1,h3,h4,rfl⟩)
   ·have F:=zu FE
    rw[endY_no (fun q=>by have q:=q.1;simp only at h1 q;rw[h1] at q;simp at q)] at F
    subst F
    exact⟨rfl,.inl ⟨rfl,⟨eu,ee,rfl⟩,(al w ZC).trans (((zu R1).b.grown h3 (zu R1).b.size (fun j hj=>by injection hj with hj;omega)).mono (by simp))⟩⟩
   simp only at h1 h4
   subst h1
   have R2:=zh ((zu R1).moved h3 (by omega) (by omega) (by omega) (by omega) h4)
   have SB:=zh ((zu R2).bx.set5 (.int .i64 v))
   have sg:=(zu SB).2
   have RX:=zh (show Rs (w.alloc ZC) (u1.setCell ⟨w.heap.size+1,5,none⟩ (.int .i64 v)) (w.heap.size+2) (w.heap.size+1) (w.heap.size+4) (w.heap.size+6) t' ⟨x.aa,x.ca,x.ai,x.ci,x.ab,x.cb,x.al,x.cl,x.ats,x.ct,withLot x.b v⟩ from
    ⟨Ints.Own.kept (zu R2).pl sg (by simp),(zu SB).1,⟨row_kept (zu R2).o.oa sg (by omega),row_kept (zu R2).o.oi sg (by omega),row_kept (zu R2).o.ob sg (by omega),row_kept (zu R2).o.ol sg (by omega),row_kept (zu R2).o.ot sg (by omega)⟩,(sg.block _ (zu R2).ltB (by simp)).trans (zu R2).q,(zu R2).b.grown sg (zu R2).b.size (fun j hj=>by injection hj with hj;omega),Nat.le_trans (zu R2).n sg.size⟩)
   have SX:=zh (show Sm13 (withLot x.b v) from zu SJ)
   obtain⟨X,hX⟩:∃X:Ix,X=⟨x.aa,x.ca,x.ai,x.ci,x.ab,x.cb,x.al,x.cl,x.ats,x.ct,withLot x.b v⟩:=⟨_,rfl⟩
   have hb:X.b=withLot x.b v:=by rw[hX]
   rw[←hX] at RX
   rw[←hb] at SX
   have HB:=zh hb
   clear hX SB sg h3 h4 R2 R1 MU RJ KJ EJ SJ PC c0 c1 HR1 hb
   generalize u1.setCell ⟨w.heap.size+1,5,none⟩ (.int .i64 v)=V1 at *
   have pc:=(zu RX).pl.cell
   have e0:V1.cell? ⟨0,0,none⟩=some (.iface et ev):=((zu RX).b.cell (p:=⟨0,0,none⟩) (zu GG).z).trans (zu GG).e
   have rn1:=(zu RX).n
   by_cases q:t'=xs.length
   case neg=>
    have F:=zu FE
    rw[endY_no (fun r=>q r.2.1)] at F
    subst F
    have qb:(t' !=(xs.length:Int))=true:=by simpa using q
    clear FE q
    go_wp2
    exact⟨rfl,.inl ⟨rfl,⟨_,_,rfl⟩,(al w ZC).trans ((zu RX).b.mono (by simp))⟩⟩
   have qb:(t' !=(xs.length:Int))=false:=by simpa using q
   obtain⟨b,hb⟩:=says_of (Ok X.b)
   have BO:=zh (IBooksOkV13.iBooksOkV V1 X b ((zu RX).o.rd (sm_small (zu SX))) hb)
   have SY:=zh hb
   have Q:=zh q
   have z0:=(zu RX).bx.c0
   have z1:=(zu RX).bx.c1
   have z2:=(zu RX).bx.c2
   have z3:=(zu RX).bx.c3
   have z4:=(zu RX).bx.c4
   have z5:=(zu RX).bx.c5
   clear q hb
   go_wp2_with fail
   refine(zu BO).mono ?_
   rintro e V2 ⟨rfl,bb⟩
   have R3:=zh ((zu RX).step bb)
   have e2:V2.cell? ⟨0,0,none⟩=some (.iface et ev):=((zu R3).b.cell (p:=⟨0,0,none⟩) (zu GG).z).trans (zu GG).e
   clear bb BO RX z0 z1 z2 z3 z4 z5 pc e0
   cases b with
   |false=>
    have F:=zu FE
    rw[endY_no (fun r=>(zu SY).no (by rw[zu HB];exact r.2.2))] at F
    subst F
    clear FE
    go_wp2
    exact⟨rfl,.inl ⟨rfl,⟨_,_,rfl⟩,(al w ZC).trans ((zu R3).b.mono (by simp))⟩⟩
   |true=>
    have F:=zu FE
    rw[endY_yes ⟨rfl,zu Q,by have:=(zu SY).yes;rw[zu HB] at this;exact this⟩] at F
    subst F
    clear FE
    have z0:=(zu R3).bx.c0
    have z1:=(zu R3).bx.c1
    have z2:=(zu R3).bx.c2
    have z3:=(zu R3).bx.c3
    have z4:=(zu R3).bx.c4
    have z5:=(zu R3).bx.c5
    have BR:=zh ((Box.made (w:=w) (base:=w.heap.size) (g:=w.heap.size) (.slice none 0 0) (.slice none 0 0) (.slice none 0 0) (.slice none 0 0) (.slice none 0 0) (.int .i64 0) (Nat.le_refl _) rfl).below (zu R3).b (by simp))
    obtain⟨y0,y1,y2,y3,y4,y5,x0,x1,x2,x3,x4,x5⟩:=Box.all (zu BR)
    go_wp2
    have SX6:=six (zu BR) (.slice X.aa X.b.ac.length X.ca) (.slice X.ai X.b.ic.length X.ci) (.slice X.ab X.b.bs.length X.cb) (.slice X.al X.b.ls.length X.cl) (.slice X.ats X.b.ts.length X.ct) (.int .i64 X.b.lot)
    have SG6:=six_grown (zu BR) (.slice X.aa X.b.ac.length X.ca) (.slice X.ai X.b.ic.length X.ci) (.slice X.ab X.b.bs.length X.cb) (.slice X.al X.b.ls.length X.cl) (.slice X.ats X.b.ts.length X.ct) (.int .i64 X.b.lot)
    have p0:=SX6.c0
    have p1:=SX6.c1
    have p2:=SX6.c2
    have p3:=SX6.c3
    have p4:=SX6.c4
    have p5:=SX6.c5
    (try simp only[Exit.inBlock,Exit.then])
    refine bodyPost_ret (v:= .agg #[.slice X.aa X.b.ac.length X.ca,.slice X.ai X.b.ic.length X.ci,.slice X.ab X.b.bs.length X.cb,.slice X.al X.b.ls.length X.cl,.slice X.ats X.b.ts.length X.ct,.int .i64 X.b.lot]) (by simp[results,Tryz.results45,go_sem,p0,p1,p2,p3,p4,p5]) rfl ?_
    have O:=(zu R3).o
    have rb:∀{e:TypeId} {m:Nat} {v:Value} {n:Nat} {vs:List Value},V2.ownsRow (w.heap.size+6) e m v n vs→_:=fun o=>row_base (row_kept o SG6 (by omega)) (show w.heap.size≤w.heap.size+6 by omega)
    exact .inr ⟨rfl,X,zu HB,rfl,⟨rb O.oa,rb O.oi,rb O.ob,rb O.ol,rb O.ot⟩,((al w ZC).trans ((zu R3).b.mono (by simp))).grown SG6 (by have:=(zu R3).n;omega) (fun j hj=>by injection hj with hj;omega)⟩
end IRead13
end Go.Proofs.YtagmnociflkhcaaGreatDoor
