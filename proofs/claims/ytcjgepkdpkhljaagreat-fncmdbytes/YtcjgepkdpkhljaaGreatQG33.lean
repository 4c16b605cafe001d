/- Lemmas. -/
import Derived.Test.YtcjgepkdpkhljaaGreatQG30
import Derived.Test.YtcjgepkdpkhljaaGreatQG32
open Go.ChangeShapes Go.WideShapes Go.ChangeAt Go.RowKit
set_option linter.unusedVariables false
set_option linter.unusedSimpArgs false
set_option maxRecDepth 100000
set_option maxHeartbeats 32000000
namespace Go.Proofs.YtcjgepkdpkhljaaGreat
namespace IMsg12
open SBytes SPut11 SPuts11 SPack12
open SCmd (CmOk nArgs Cb)
open Lots (Says says_of)
def AtI(w:World)(g:Nat)(xs:List Int):Prop:=∀i,i<xs.length→w.cell? ⟨g,i,none⟩=some (.int .i64 (xs.getD i 0))
theorem wp_catI(u:World){ops:Array Oper}{rest:List Oper}{o:Oper}{a:Act}{Q:Exit→Act→World→Prop}(hgd:o.guard=none)(s x:Operand)
  (ho:o.op= .call {callee:= .builtin .append,args:= #[s,x],argTypes:= #[24,24]})(base g n cap m:Nat)(xs ys:List Int)(vb c:Nat)
  (hs:a.eval s= .slice (some ⟨g,0,none⟩) n cap)(hx:a.eval x= .slice (some ⟨vb,0,none⟩) m c)(hown:Ints.Own u base g n cap xs)(hl:ys.length=m)(hv:AtI u vb ys)(hn:n+m≤100000000)(hb:base≤u.heap.size)
  (h:∀g' c' w',Ints.Own w' base g' (n+m) c' (xs++ys)→u.grownBy w' (some g)→(g'=g∨g'=u.heap.size)→wpList Tryz.prog ops Q rest (a.put o.dst (.slice (some ⟨g',0,none⟩) (n+m) c')) w'):wpList Tryz.prog ops Q (o::rest) a u:=by
 obtain⟨i0,hi,hz0,hz1,hz2⟩:=info_parts Ints.info3
 refine wpList_append_own_at u hgd s x 24 ho base 3 i0 (.int .i64 0) 1 8 Tryz.underlying24 hi hz0 hz1 hz2 rfl (by decide) _ n _ hs hown ⟨vb,0,none⟩ m c (ys.map (Value.int .i64)) hx (by simp[hl]) (fun j v hj=>by
  have hj':j<ys.length:=by
   have:=(List.getElem?_eq_some_iff.1 hj).1
   simpa using this
  have:=hv j hj'
  rw[Addr.add_lit,Nat.zero_add,this]
  rw[←hj]
  simp[List.getD,hj']) (by intro u hu;obtain⟨y,_,rfl⟩:=List.mem_map.1 hu;simp[Value.oneCell']) (by unfold maxLen;omega) (by omega) hb ?_
 intro v' w' own' gr' nil' loc'
 obtain⟨g',c',rfl,o'⟩:=own_of_rowI (n':=n+m) (xs:=xs++ys) own' rfl (by simp) (by rw[nil'];simp)
 exact h g' c' w' o' gr' (by simpa[Value.ownBlock] using loc')
theorem step_catO(u:World){ops:Array Oper}{o:Oper}{a:Act}{K:Act→World→Prop}{Q:Exit→Act→World→Prop}{E:Prop}(hgd:o.guard=none)(s x:Operand)
  (ho:o.op= .call {callee:= .builtin .append,args:= #[s,x],argTypes:= #[24,24]})(base n cap m:Nat)(a0:Option Addr)(xs ys:List Int)(vb c:Nat)
  (hs:a.eval s= .slice a0 n cap)(hx:a.eval x= .slice (some ⟨vb,0,none⟩) m c)(hown:VOI.Ob u base a0 n cap xs)(hm:0<m)(hl:ys.length=m)(hv:AtI u vb ys)(hn:n+m≤100000000)(hb:base≤u.heap.size)
  (h:∀g' c' w',Ints.Own w' base g' (n+m) c' (xs++ys)→u.grownBy w' (VOI.blk a0)→(a0=some ⟨g',0,none⟩∨g'=u.heap.size)→K (a.put o.dst (.slice (some ⟨g',0,none⟩) (n+m) c')) w'):if Region.wanted o (yielded ops a.tmps)=true then Oper.wp Tryz.prog o a u K Q else E:=by
 obtain⟨i0,hi,hz0,hz1,hz2⟩:=info_parts Ints.info3
 have hw:Region.wanted o (yielded ops a.tmps)=true:=by simp[Region.wanted,hgd]
 rw[if_pos hw]
 obtain⟨v',w',hr,own',gr',nil',loc'⟩:=run_append_own_at (P:=Tryz.prog) u base 24 o.type 3 i0 (.int .i64 0) 1 8 Tryz.underlying24 hi hz0 hz1 hz2 rfl (by decide) (.slice a0 n cap) n (xs.map (Value.int .i64)) hown ⟨vb,0,none⟩ m c (ys.map (Value.int .i64)) (by simp[hl]) (fun j v hj=>by
  have hj':j<ys.length:=by
   have:=(List.getElem?_eq_some_iff.1 hj).1
   simpa using this
  have:=hv j hj'
  rw[Addr.add_lit,Nat.zero_add,this]
  rw[←hj]
  simp[List.getD,hj']) (by intro u hu;obtain⟨y,_,rfl⟩:=List.mem_map.1 hu;simp[Value.oneCell']) (by unfold maxLen;omega) (by omega) hb
 unfold Oper.wp execOp
 simp only[ho,resolve,invoke,builtin,Sem.run_bind,Sem.run_pure,Result.andThen_ok,List.map_toArray,List.map_cons,List.map_nil,hs,hx,hr]
 obtain⟨g',c',rfl,o'⟩:=own_of_rowI (n':=n+m) (xs:=xs++ys) own' rfl (by simp) (by rw[nil'];rintro⟨_,e⟩;omega)
 rcases hown.either with⟨rfl,rfl,rfl⟩|⟨g,rfl,o⟩
 ·exact h g' c' w' o' gr' (.inr (by simpa[Value.ownBlock] using loc'))
 ·refine h g' c' w' o' gr' ?_
  have:g'=g∨g'=u.heap.size:=by simpa[Value.ownBlock] using loc'
  rcases this with rfl|e
  ·exact .inl rfl
  ·exact .inr e
theorem fitsC(w:World)(k:Int)(g cap:Nat)(xs:List Int)(b:Bool)(h20:xs.length≤1048576)(hg:g<w.heap.size)(hr:Ints.At w g xs)(hb:Says b (CmOk k xs)):
  Calls Tryz.prog 130 #[.agg #[.int .i64 k,.slice (some ⟨g,0,none⟩) xs.length cap]] w fun e w'=>e= .returned (.bool b)∧Below w.heap.size w w':=by
 have T:=zh hb
 have L0:=zh (Cb.start (k:=k) (cap:=cap) hr hg 26)
 clear hr hg hb
 obtain⟨c0,c1⟩:=(zu L0).c
 go_enter Tryz.func130,Tryz.ntmps130
 go_wp2_with fail
 refine(ICall10.iCmdOk _ k g cap xs b h20 (zu L0).l (zu L0).r (zu T)).mono ?_
 rintro e u ⟨rfl,bb⟩
 have L1:=zh ((zu L0).step bb)
 clear bb c0 c1
 go_wp2
 go_ret
 exact⟨rfl,(zu L1).b⟩
theorem numsC(w:World)(k:Int)(g cap:Nat)(xs:List Int)(h20:xs.length≤1048576)(hg:g<w.heap.size)(hr:Ints.At w g xs):
  Calls Tryz.prog 131 #[.agg #[.int .i64 k,.slice (some ⟨g,0,none⟩) xs.length cap]] w fun e w'=>∃g' c,e= .returned (.slice (some ⟨g',0,none⟩) (1+xs.length) c)∧Ints.Own w' w.heap.size g' (1+xs.length) c (k::xs)∧Below w.heap.size w w':=by
 have L0:=zh (Cb.start (k:=k) (cap:=cap) hr hg 26)
 have O0:=zh (show Ints.Own ((w.alloc (.cells #[.int .i64 k,.slice (some ⟨g,0,none⟩) xs.length cap] 26)).alloc (.cells #[.int .i64 k] 3)) w.heap.size (w.heap.size+1) 1 1 [k] from by have:=World.ownsRow_lit (base:=w.heap.size) (size:=1) (e:=3) (w.alloc (.cells #[.int .i64 k,.slice (some ⟨g,0,none⟩) xs.length cap] 26)) #[.int .i64 k] 1 (by simp) (by decide) rfl;simp at this;exact this)
 have B0:=zh ((zu L0).b.alloc (by simp) (.cells #[.int .i64 k] 3))
 have R:=zh (show AtI ((w.alloc (.cells #[.int .i64 k,.slice (some ⟨g,0,none⟩) xs.length cap] 26)).alloc (.cells #[.int .i64 k] 3)) g xs from fun i hi=>(Ints.At.below (zu L0).r (one_more _ _) (zu L0).l) i hi)
 clear hr hg
 obtain⟨c0,c1⟩:=(zu L0).c
 go_enter Tryz.func131,Tryz.ntmps131
 go_wp2_with (first|(at_builtin;refine wp_catI _ rfl _ _ rfl w.heap.size (w.heap.size+1) 1 1 xs.length [k] xs g cap (by simp[Act.eval]) (by rfl) (zu O0) rfl (zu R) (by omega) (by simp;omega) ?_)|go_in)
 intro g5 c5 w5 o5 gr5 loc5
 have O5:=zh o5
 have B5:=zh ((zu B0).grown gr5 (by simp;omega) (fun j hj=>by cases hj;omega))
 clear o5 gr5 loc5 R O0 B0 c0 c1 L0
 go_wp2
 go_ret
 exact⟨g5,c5,rfl,zu O5,zu B5⟩
end IMsg12
namespace IPack12
open SBytes SPut11 SPuts11 SPack12 IMsg12 SPackC12
open SCmd (CmOk nArgs Cb)
open Lots (Says says_of)
theorem me_fitsC(v:Value)(w:World):(Go.method 377 26 v "loop.example/g00110/impl.fits").run Tryz.prog w= .ok (130,v) w:=by kernel_rfl
theorem me_numsC(v:Value)(w:World):(Go.method 377 26 v "loop.example/g00110/impl.numbers").run Tryz.prog w= .ok (131,v) w:=by kernel_rfl
theorem en_fitsC(args:Array Value)(u:World):(callFunc 130 args).run Tryz.prog u= .ok (.enter 130 args) u:=ICall10.enters Tryz.func130 (by kernel_rfl) rfl _ _
theorem en_numsC(args:Array Value)(u:World):(callFunc 131 args).run Tryz.prog u= .ok (.enter 131 args) u:=ICall10.enters Tryz.func131 (by kernel_rfl) rfl _ _
theorem args_few{k:Int}{xs:List Int}(h:CmOk k xs):xs.length≤7:=by
 have a:=h.1
 unfold nArgs at a
 repeat' split at a
 all_goals omega
theorem nums_cmd{k:Int}{xs:List Int}(h:CmOk k xs):numsB (k::xs)=packC true k xs:=by
 have hk:=kind_in h
 have hx:∀i,i<xs.length→0≤xs.getD i 0:=fun i hi=>(h.2 i hi).1
 unfold packC numsB
 rw[if_pos rfl,if_pos hx,if_pos]
 ·simp
 ·intro i hi
  cases i with
  |zero=>simp;omega
  |succ j=>simpa using hx j (by simpa using hi)
end IPack12
namespace IPackC12
open SBytes SPut11 SPuts11 SPack12 IMsg12 SPackC12 IPack12
open SCmd (CmOk nArgs Cb)
open Lots (Says says_of)
theorem packedC(w:World)(k:Int)(gl cap:Nat)(xs:List Int)(b:Bool)(h20:xs.length≤1048576)(hg:gl<w.heap.size)(hr:Ints.At w gl xs)(hb:Says b (CmOk k xs)):
  Calls Tryz.prog 17 #[.iface 26 (.agg #[.int .i64 k,.slice (some ⟨gl,0,none⟩) xs.length cap])] w fun e w'=>∃a c,e= .returned (.tuple #[.slice a (packC b k xs).length c,.bool b])∧VOB.Ob w' w.heap.size a (packC b k xs).length c (packC b k xs)∧Below w.heap.size w w':=by
 have m1:=me_fitsC
 have m2:=en_fitsC
 have m3:=me_numsC
 have m4:=en_numsC
 have FR:=zh (fitsC w k gl cap xs b (by omega) hg hr hb)
 have R:=zh hr
 have HG:=zh hg
 have HB:=zh hb
 clear hr hg hb
 cases b with
 |false=>
  have e:packC false k xs=[]:=rfl
  rw[e]
  clear e
  go_enter Tryz.func17,Tryz.ntmps17
  go_wp2_with fail
  refine(zu FR).mono ?_
  rintro e u1 ⟨rfl,bb⟩
  have B1:=zh bb
  have O1:=zh (lit0 u1 w.heap.size bb.size rfl)
  clear bb
  go_wp2
  go_ret2
  exact⟨_,0,rfl,VOB.Ob.of (zu O1),(zu B1).alloc (zu B1).size _⟩
 |true=>
  have few:=args_few (zu HB).yes
  rw[←nums_cmd (zu HB).yes]
  go_enter Tryz.func17,Tryz.ntmps17
  go_wp2_with fail
  refine(zu FR).mono ?_
  rintro e u1 ⟨rfl,bb⟩
  have B1:=zh bb
  clear bb
  go_wp2_with fail
  refine(numsC u1 k gl cap xs (by omega) (Nat.lt_of_lt_of_le (zu HG) (zu B1).size) ((zu R).below (zu B1) (zu HG))).mono ?_
  rintro e u2 ⟨g2,k2,rfl,o2,bb⟩
  have B2:=zh ((zu B1).trans (bb.mono (zu B1).size))
  have O2:=zh o2
  have IP:=zh (IPuts11.iPutNums u2 g2 k2 (k::xs) (by simp;omega) (zu O2).lt.2 (zu O2).at (fun i hi=>by
   have hk:=kind_in (zu HB).yes
   cases i with
   |zero=>simp;omega
   |succ j=>simpa using args_in (zu HB).yes j (by simpa using hi)))
  rw[show(k::xs).length=1+xs.length by simp;omega] at IP
  clear o2 bb
  go_wp2_with fail
  refine(zu IP).mono ?_
  rintro e u3 ⟨a3,k3,rfl,o3,bb⟩
  have B3:=zh ((zu B2).trans (bb.mono (zu B2).size))
  have O3:=zh (o3.mono (zu B2).size)
  clear bb o3
  go_wp2
  go_ret2
  exact⟨a3,k3,rfl,zu O3,zu B3⟩
theorem iCmdPack(w:World)(k:Int)(gl cap:Nat)(xs:List Int)(b:Bool)(h20:xs.length≤1048576)(hg:gl<w.heap.size)(hr:Ints.At w gl xs)(hb:Says b (CmOk k xs)):
  Calls Tryz.prog 6 #[.agg #[.int .i64 k,.slice (some ⟨gl,0,none⟩) xs.length cap]] w fun e w'=>∃a c,e= .returned (.tuple #[.slice a (packC b k xs).length c,.bool b])∧VOB.Ob w' w.heap.size a (packC b k xs).length c (packC b k xs)∧Below w.heap.size w w':=by
 have L0:=zh (Cb.start (k:=k) (cap:=cap) hr hg 26)
 have T:=zh hb
 clear hr hg hb
 obtain⟨c0,c1⟩:=(zu L0).c
 go_enter Tryz.func6,Tryz.ntmps6
 go_wp2_with fail
 refine(packedC _ k gl cap xs b h20 (zu L0).l (zu L0).r (zu T)).mono ?_
 rintro e u3 ⟨a3,k3,rfl,o3,bb⟩
 have B3:=zh ((zu L0).b.trans (bb.mono (zu L0).b.size))
 have O3:=zh (o3.mono (zu L0).b.size)
 clear bb o3 c0 c1
 go_wp2
 go_ret2
 exact⟨a3,k3,rfl,zu O3,zu B3⟩
end IPackC12
namespace IZero12
open SBytes IPack12
theorem boxed0(w:World)(a:Option Addr)(n c:Nat):Below w.heap.size w (w.alloc (.cells #[.int .i64 0,.slice a n c] 26)):=(Below.refl _ _).alloc (Nat.le_refl _) _
theorem callOf0(w:World)(a:Option Addr)(n c:Nat):Calls Tryz.prog 20 #[.agg #[.int .i64 0,.slice a n c]] w fun e w'=>e= .returned (.tuple #[.nilIface,.bool false])∧Below w.heap.size w w':=by
 have B:=zh (boxed0 w a n c)
 go_enter Tryz.func20,Tryz.ntmps20
 go_wp2_with fail
 refine(ICmd10.iNone _ 0 (.inl (by decide))).mono ?_
 rintro e u ⟨rfl,hu⟩
 obtain rfl:=hu.symm
 go_wp2
 go_ret2
 exact⟨rfl,zu B⟩
theorem cmdOk0(w:World)(a:Option Addr)(n c:Nat):Calls Tryz.prog 8 #[.agg #[.int .i64 0,.slice a n c]] w fun e w'=>e= .returned (.bool false)∧Below w.heap.size w w':=by
 have B:=zh (boxed0 w a n c)
 go_enter Tryz.func8,Tryz.ntmps8
 go_wp2_with fail
 refine(callOf0 _ a n c).mono ?_
 rintro e u ⟨rfl,bb⟩
 have B1:=zh ((zu B).trans (bb.mono (zu B).size))
 clear bb B
 go_wp2
 go_ret
 exact⟨rfl,zu B1⟩
theorem fits0(w:World)(a:Option Addr)(n c:Nat):Calls Tryz.prog 130 #[.agg #[.int .i64 0,.slice a n c]] w fun e w'=>e= .returned (.bool false)∧Below w.heap.size w w':=by
 have B:=zh (boxed0 w a n c)
 go_enter Tryz.func130,Tryz.ntmps130
 go_wp2_with fail
 refine(cmdOk0 _ a n c).mono ?_
 rintro e u ⟨rfl,bb⟩
 have B1:=zh ((zu B).trans (bb.mono (zu B).size))
 clear bb B
 go_wp2
 go_ret
 exact⟨rfl,zu B1⟩
theorem packed0(w:World)(a:Option Addr)(n c:Nat):Calls Tryz.prog 17 #[.iface 26 (.agg #[.int .i64 0,.slice a n c])] w fun e w'=>∃g k,e= .returned (.tuple #[.slice (some ⟨g,0,none⟩) 0 k,.bool false])∧Below w.heap.size w w':=by
 have m1:=me_fitsC
 have m2:=en_fitsC
 go_enter Tryz.func17,Tryz.ntmps17
 go_wp2_with fail
 refine(fits0 w a n c).mono ?_
 rintro e u1 ⟨rfl,bb⟩
 have B1:=zh bb
 clear bb
 go_wp2
 go_ret2
 exact⟨_,0,rfl,(zu B1).alloc (zu B1).size _⟩
theorem pack0(w:World)(a:Option Addr)(n c:Nat):Calls Tryz.prog 6 #[.agg #[.int .i64 0,.slice a n c]] w fun e w'=>∃g k,e= .returned (.tuple #[.slice (some ⟨g,0,none⟩) 0 k,.bool false])∧Below w.heap.size w w':=by
 have B:=zh (boxed0 w a n c)
 go_enter Tryz.func6,Tryz.ntmps6
 go_wp2_with fail
 refine(packed0 _ a n c).mono ?_
 rintro e u ⟨g,k,rfl,bb⟩
 have B1:=zh ((zu B).trans (bb.mono (zu B).size))
 clear bb B
 go_wp2
 go_ret2
 exact⟨g,k,rfl,zu B1⟩
end IZero12
end Go.Proofs.YtcjgepkdpkhljaaGreat
