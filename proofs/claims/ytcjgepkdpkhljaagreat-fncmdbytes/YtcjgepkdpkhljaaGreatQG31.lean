/- Lemmas. -/
import Derived.Test.YtcjgepkdpkhljaaGreatQG29
import Derived.Test.YtcjgepkdpkhljaaGreatQG30
open Go.ChangeShapes Go.WideShapes Go.ChangeAt Go.RowKit
set_option linter.unusedVariables false
set_option linter.unusedSimpArgs false
set_option maxRecDepth 100000
set_option maxHeartbeats 32000000
namespace Go.Proofs.YtcjgepkdpkhljaaGreat
namespace DrawS12
open BMem Bks Ans Draw Draw11 DrawN12 DrawX12 SRun12 DrawR12 DrawW12
open SIssue (row_ne)
open BHelp (row_block)
theorem wp_catJ(u:World){ops:Array Oper}{rest:List Oper}{o:Oper}{a:Act}{Q:Exit→Act→World→Prop}(hgd:o.guard=none)(s x:Operand)
  (ho:o.op= .call {callee:= .builtin .append,args:= #[s,x],argTypes:= #[24,24]})(base g n cap m:Nat)(xs ys:List Int)(vb c:Nat)
  (hs:a.eval s= .slice (some ⟨g,0,none⟩) n cap)(hx:a.eval x= .slice (some ⟨vb,0,none⟩) m c)(hown:Ints.Own u base g n cap xs)(hl:ys.length=m)(hv:Ints.At u vb ys)(hn:n+m≤100000000)(hb:base≤u.heap.size)
  (h:∀g' c' w',Ints.Own w' base g' (n+m) c' (xs++ys)→u.grownBy w' (some g)→(g'=g∨g'=u.heap.size)→wpList Tryz.prog ops Q rest (a.put o.dst (.slice (some ⟨g',0,none⟩) (n+m) c')) w'):wpList Tryz.prog ops Q (o::rest) a u:=by
 obtain⟨i0,hi,hz0,hz1,hz2⟩:=info_parts Ints.info3
 refine wpList_append_own_at u hgd s x 24 ho base 3 i0 (.int .i64 0) 1 8 Tryz.underlying24 hi hz0 hz1 hz2 rfl (by decide) _ n _ hs hown ⟨vb,0,none⟩ m c (ys.map (Value.int .i64)) hx (by simp[hl]) (fun j v hj=>by
  have hj':j<ys.length:=by
   have:=(List.getElem?_eq_some_iff.1 hj).1
   simpa using this
  have:=hv j hj'
  rw[Addr.add_lit,Nat.zero_add,this]
  rw[←hj]
  simp[List.getD,hj']) (by intro u hu;obtain⟨y,_,rfl⟩:=List.mem_map.1 hu;simp[Value.oneCell']) (by unfold maxLen;omega) (by omega) hb ?_
 intro v' w' own' gr' nil' loc'
 obtain⟨g',c',rfl,o'⟩:=Shorts.own_of_row (n':=n+m) (xs:=xs++ys) own' rfl (by simp) (by rw[nil'];simp)
 exact h g' c' w' o' gr' (by simpa[Value.ownBlock] using loc')
structure Sp(w0 w W:World)(c:Nat)(a:Option Addr)(len cap:Nat)(g n cp:Nat)(xs:List Int)(v0 v1:Value):Prop where
 mv:Moved w0 w W c a len cap
 hc:c<w.heap.size
 h0:w0.heap.size≤w.heap.size
 b3:K2 26 W w.heap.size w.heap.size v0 v1
 b4:K2 26 W w.heap.size (w.heap.size+1) (.int .i64 0) (.slice none 0 0)
 o:Ints.Own W 0 g n cp xs
 gc:g≠c
section
variable {w0 w W W':World} {c:Nat} {a:Option Addr} {len cap g n cp:Nat} {xs:List Int} {v0 v1:Value}
theorem Sp.mov(h:Sp w0 w W c a len cap g n cp xs v0 v1)(k:Moved w0 W W' c a len cap):Sp w0 w W' c a len cap g n cp xs v0 v1:=
 ⟨h.mv.trans k,h.hc,h.h0,h.b3.blk (k.2.2 _ h.b3.lt.2 (by have:=h.hc;omega)),h.b4.blk (k.2.2 _ h.b4.lt.2 (by have:=h.hc;omega)),row_block h.o (k.2.2 g h.o.lt.2 h.gc),h.gc⟩
theorem Sp.bel(h:Sp w0 w W c a len cap g n cp xs v0 v1)(k:Below W.heap.size W W'):Sp w0 w W' c a len cap g n cp xs v0 v1:=
 ⟨moved_below h.mv k,h.hc,h.h0,h.b3.blk (k.block _ h.b3.lt.2),h.b4.blk (k.block _ h.b4.lt.2),h.o.below k h.o.lt.2,h.gc⟩
theorem Sp.set0(h:Sp w0 w W c a len cap g n cp xs v0 v1)(u:Value):Sp w0 w (W.setCell ⟨w.heap.size,0,none⟩ u) c a len cap g n cp xs u v1:=by
 obtain⟨b,q⟩:=h.b3.set0 u
 exact⟨moved_grown h.mv q h.hc (Nat.le_refl _) h.h0,h.hc,h.h0,b,h.b4.blk (q.block _ h.b4.lt.2 (fun e=>by injection e;omega)),row_block h.o (q.block g h.o.lt.2 (fun e=>row_ne h.o h.b3 (by decide) (by injection e))),h.gc⟩
theorem Sp.set1{g' n' cp':Nat}{ys:List Int}(h:Sp w0 w W c a len cap g n cp xs v0 v1)(o:Ints.Own W 0 g' n' cp' ys)(ne:g'≠c)(u:Value):Sp w0 w (W.setCell ⟨w.heap.size,1,none⟩ u) c a len cap g' n' cp' ys v0 u:=by
 obtain⟨b,q⟩:=h.b3.set1 u
 exact⟨moved_grown h.mv q h.hc (Nat.le_refl _) h.h0,h.hc,h.h0,b,h.b4.blk (q.block _ h.b4.lt.2 (fun e=>by injection e;omega)),row_block o (q.block g' o.lt.2 (fun e=>row_ne o h.b3 (by decide) (by injection e))),ne⟩
theorem Sp.grown{g' n' cp':Nat}{ys zs:List Int}(h:Sp w0 w W c a len cap g n cp xs v0 v1)(r:Ints.Own W w.heap.size g' n' cp' ys)(k:W.grownBy W' (some g'))(o:Ints.Own W' 0 g n cp zs):Sp w0 w W' c a len cap g n cp zs v0 v1:=
 ⟨moved_grown h.mv k h.hc r.lt.1 h.h0,h.hc,h.h0,h.b3.blk (k.block _ h.b3.lt.2 (fun e=>row_ne r h.b3 (by decide) (by injection e with e;exact e.symm))),h.b4.blk (k.block _ h.b4.lt.2 (fun e=>row_ne r h.b4 (by decide) (by injection e with e;exact e.symm))),o,h.gc⟩
theorem Sp.fin(h:Sp w0 w W c a len cap g n cp xs v0 v1):Ints.Own ((W.setCell ⟨w.heap.size+1,0,none⟩ v0).setCell ⟨w.heap.size+1,1,none⟩ v1) 0 g n cp xs∧Moved w0 w ((W.setCell ⟨w.heap.size+1,0,none⟩ v0).setCell ⟨w.heap.size+1,1,none⟩ v1) c a len cap:=by
 obtain⟨b,q⟩:=h.b4.set0 v0
 obtain⟨d,r⟩:=b.set1 v1
 have m1:=moved_grown h.mv q h.hc (by omega) h.h0
 have o1:=row_block h.o (q.block g h.o.lt.2 (fun e=>row_ne h.o h.b4 (by decide) (by injection e)))
 exact⟨row_block o1 (r.block g (World.ownsRow.lt o1 g rfl).2 (fun e=>row_ne o1 b (by decide) (by injection e))),moved_grown m1 r h.hc (by omega) h.h0⟩
theorem Sp.drew(h:Sp w0 w W c a len cap g n cp xs v0 v1):Sp w0 w W.drew c a len cap g n cp xs v0 v1:=h.mov ⟨h.mv.1.drew,(Only.refl c W).drew⟩
theorem Sp.head(h:Sp w0 w W c a len cap g n cp xs v0 v1)(hg:w.heap.size≤g)(y:Int):Sp w0 w (W.setCell ⟨g,0,none⟩ (.int .i64 y)) c a len cap g n cp (xs.set 0 y) v0 v1:=by
 have s:=World.ownsRow.stored h.o 0 (.int .i64 y)
 have o:Ints.Own (W.setCell ⟨g,0,none⟩ (.int .i64 y)) 0 g n cp (xs.set 0 y):=by
  have:=s.1
  rw[←List.map_set] at this
  exact this
 have q:=s.2
 exact⟨moved_grown h.mv q h.hc hg h.h0,h.hc,h.h0,h.b3.blk (q.block _ h.b3.lt.2 (fun e=>row_ne h.o h.b3 (by decide) (by injection e with e;exact e.symm))),h.b4.blk (q.block _ h.b4.lt.2 (fun e=>row_ne h.o h.b4 (by decide) (by injection e with e;exact e.symm))),o,h.gc⟩
end
section
variable {P:Program} {ops:Array Oper} {Q:Exit→Act→World→Prop} {md:Region.Mode} {S:World→Prop} {fuel:Nat} {listed:Array Bool} {a:Act} {w:World}
theorem tk(i:Nat){oi:Oper}(v:Value)(hi:ops[i]?=some oi)(hb:(Region.noSelect ops&&(Region.free md ops listed i&&(Region.ready md ops listed).contains i))=true)(hQ:∀c a w,Q (.panic c) (a.put oi.dst v) w→Q (.panic c) a w)(hw:Region.wanted oi (yielded ops a.tmps)=true)(hS:S w)(hy:∀w,S w→(execOp a.eval oi).run P w= .ok (.value v) w)(h:wpAnyH P md ops Q S fuel (listed.setIfInBounds i true) (a.put oi.dst v) w):wpAnyH P md ops Q S (fuel+1) listed a w:=by
 rw[Bool.and_eq_true,Bool.and_eq_true] at hb
 exact wpAnyH_take hi hb.1 hb.2.1 hb.2.2 hQ (.inl ⟨hw,hy⟩) hS h
end
theorem zA{α:Type}(l:List α)(i:Nat)(x:α):l.toArray.setIfInBounds i x=(l.set i x).toArray:=List.setIfInBounds_toArray ..
theorem zB{α:Type}(x y:α)(l:List α):(x::l).set 0 y=y::l:=rfl
theorem zC{α:Type}(x y:α)(l:List α)(n:Nat):(x::l).set (n+1) y=x::l.set n y:=rfl
def SpoilT(w0 w:World)(c:Nat)(a:Option Addr)(len cap:Nat)(e:Ending)(w':World):Prop:=
 ∃(k:Int) (g n cp:Nat) (xs:List Int),e= .returned (.agg #[.int .i64 k,.slice (some ⟨g,0,none⟩) n cp])∧Ints.Own w' 0 g n cp xs∧n≤8∧Moved w0 w w' c a len cap
theorem spoil(w0 w:World)(c:Nat)(a:Option Addr)(len cap:Nat)(k:Int)(g n cp:Nat)(xs:List Int)(hl:len≤1048576)(hcode:CodeAt w0 a len)(h:Cur w0 w c a len cap)(o:Ints.Own w 0 g n cp xs)(n1:1≤n)(n7:n≤7)(gc:g≠c):
  Calls Tryz.prog 15 #[.pointer (some ⟨c,0,none⟩),.agg #[.int .i64 k,.slice (some ⟨g,0,none⟩) n cp]] w (SpoilT w0 w c a len cap):=by
 have X0:=zh (show Sp w0 w ((w.alloc (.cells #[.int .i64 k,.slice (some ⟨g,0,none⟩) n cp] 26)).alloc (.cells #[.int .i64 0,.slice none 0 0] 26)) c a len cap g n cp xs (.int .i64 k) (.slice (some ⟨g,0,none⟩) n cp) from by
  have b1:=DrawN12.one_more w (.cells #[.int .i64 k,.slice (some ⟨g,0,none⟩) n cp] 26)
  have b2:=DrawN12.one_more (w.alloc (.cells #[.int .i64 k,.slice (some ⟨g,0,none⟩) n cp] 26)) (.cells #[.int .i64 0,.slice none 0 0] 26)
  have s1:(w.alloc (.cells #[.int .i64 k,.slice (some ⟨g,0,none⟩) n cp] 26)).heap.size=w.heap.size+1:=by simp
  have k4:=K2.made (t:=26) (w:=w.alloc (.cells #[.int .i64 k,.slice (some ⟨g,0,none⟩) n cp] 26)) (base:=w.heap.size) (.int .i64 0) (.slice none 0 0) (by omega) s1.symm
  exact⟨moved_below (moved_below (moved_start h) b1) b2,h.hi,h.bel.size,(K2.made _ _ (Nat.le_refl _) rfl).blk (b2.block _ (by omega)),k4,(o.below b1 o.lt.2).below b2 (by have:=o.lt.2;omega),gc⟩)
 have HD:=zh hcode
 have ol:=o.len
 clear h hcode o gc
 go_enter Tryz.func15,Tryz.ntmps15
 go_wp2_with fail
 refine(below w0 _ c a len cap 20 hl (zu HD) (zu X0).mv.1 (by omega)).mono ?_
 rintro e u1 ⟨⟨x,xa,xb,rfl⟩,mv1⟩
 have X:=zh ((zu X0).mov mv1)
 clear mv1 X0
 by_cases h0:x=0
 ·subst h0
  go_wp2_with fail
  refine(below w0 _ c a len cap 13 hl (zu HD) (zu X).mv.1 (by omega)).mono ?_
  rintro e u2 ⟨⟨y,ya,yb,rfl⟩,mv1⟩
  replace X:=zh ((zu X).mov mv1)
  clear mv1
  obtain⟨f0,f1,c0,c1⟩:=(zu X).b3.opn
  obtain⟨e0,e1,d0,d1⟩:=(zu X).b4.opn
  have F:=zh ((zu X).set0 (.int .i64 y)).fin
  go_wp2
  refine bodyPost_ret (v:= .agg #[.int .i64 y,.slice (some ⟨g,0,none⟩) n cp]) (by simp[results,Tryz.results15,go_sem,d0,d1]) rfl ?_
  exact⟨y,g,n,cp,xs,rfl,(zu F).1,by omega,(zu F).2⟩
 by_cases h1:x=1
 ·subst h1
  obtain⟨f0,f1,c0,c1⟩:=(zu X).b3.opn
  have wu:=(zu X).mv.2.1
  have wl:=(zu X).b3.lt.2
  have wl4:=(zu X).b4.lt.2
  have O0:=zh (Shorts.lit0 u1 w.heap.size (g:=u1.heap.size) wu rfl)
  have X1:=zh ((zu X).bel (DrawN12.one_more u1 (.cells #[] 3)))
  have gu:=(zu X).o.lt.2
  go_wp2_with (first|(at_builtin;refine wp_catJ _ rfl _ _ rfl w.heap.size u1.heap.size 0 0 n [] xs g cp rfl rfl (zu O0) ol (zu X1).o.at (by omega) (by simp;omega) ?_)|go_in)
  intro g2 c2 u2 o2 gr2 loc2
  have o2':Ints.Own u2 w.heap.size g2 n c2 xs:=by simpa using o2
  have O2:=zh o2'
  have X2:=zh ((zu X1).grown (zu O0) gr2 (row_block (zu X1).o (gr2.block g (zu X1).o.lt.2 (fun e=>by injection e;omega))))
  have wl2:=(zu X2).b3.lt.2
  have wl24:=(zu X2).b4.lt.2
  have bs2:=(zu X2).mv.2.1
  have hc:=(zu X2).hc
  have gg2:=o2'.lt
  clear o2 o2' gr2 X X1 O0 f0 f1 c0 c1
  have X3:=zh ((zu X2).bel (DrawN12.one_more u2 (.cells #[.int .i64 1] 3)))
  have g2n:g≠g2:=by rcases loc2 with h|h<;>omega
  obtain⟨f0,f1,c0,c1⟩:=(zu X2).b3.opn
  go_wp2_with (first|(at_builtin;refine Shorts.wp_appI _ rfl _ _ rfl w.heap.size g2 n c2 xs u2.heap.size 1 rfl rfl (Shorts.own_alloc (zu O2) _) (by simp) (by omega) (by simp;omega) ?_)|go_in)
  intro g3 c3 u3 o3 gr3 loc3
  have X4:=zh ((zu X3).grown (Shorts.own_alloc (zu O2) _) gr3 (row_block (zu X3).o (gr3.block g (zu X3).o.lt.2 (fun e=>by injection e;omega))))
  have gg3:=o3.lt
  have X5:=zh ((zu X4).set1 (o3.mono (Nat.zero_le _)) (by omega) (.slice (some ⟨g3,0,none⟩) (n+1) c3))
  have F:=zh (zu X5).fin
  clear f0 f1 c0 c1
  obtain⟨f0,f1,c0,c1⟩:=(zu X4).b3.opn
  obtain⟨e0,e1,d0,d1⟩:=(zu X4).b4.opn
  have wl3:=(zu X4).b3.lt.2
  have wl34:=(zu X4).b4.lt.2
  clear X2 X3 O2 o3 gr3
  go_wp2
  refine bodyPost_ret (v:= .agg #[.int .i64 k,.slice (some ⟨g3,0,none⟩) (n+1) c3]) (by simp[results,Tryz.results15,go_sem,d0,d1]) rfl ?_
  exact⟨k,g3,n+1,c3,xs++[1],rfl,(zu F).1,by omega,(zu F).2⟩
 by_cases h2:x=2
 ·subst h2
  obtain⟨f0,f1,c0,c1⟩:=(zu X).b3.opn
  have wu:=(zu X).mv.2.1
  have wl:=(zu X).b3.lt.2
  have wl4:=(zu X).b4.lt.2
  have O0:=zh (Shorts.lit0 u1 w.heap.size (g:=u1.heap.size) wu rfl)
  have X1:=zh ((zu X).bel (DrawN12.one_more u1 (.cells #[] 3)))
  have gu:=(zu X).o.lt.2
  go_wp2_with (first|(at_builtin;refine wp_catJ _ rfl _ _ rfl w.heap.size u1.heap.size 0 0 n [] xs g cp rfl rfl (zu O0) ol (zu X1).o.at (by omega) (by simp;omega) ?_)|go_in)
  intro g2 c2 u2 o2 gr2 loc2
  have o2':Ints.Own u2 w.heap.size g2 n c2 xs:=by simpa using o2
  have O2:=zh o2'
  have X2:=zh ((zu X1).grown (zu O0) gr2 (row_block (zu X1).o (gr2.block g (zu X1).o.lt.2 (fun e=>by injection e;omega))))
  have wl2:=(zu X2).b3.lt.2
  have wl24:=(zu X2).b4.lt.2
  have bs2:=(zu X2).mv.2.1
  have hc:=(zu X2).hc
  have gg2:=o2'.lt
  clear o2 o2' gr2 X X1 O0 f0 f1 c0 c1
  obtain⟨f0,f1,c0,c1⟩:=(zu X2).b3.opn
  have X3:=zh ((zu X2).set1 ((zu O2).mono (Nat.zero_le _)) (by omega) (.slice (some ⟨g2,0,none⟩) n c2))
  clear O2
  go_wp2_with fail
  clear f0 f1 c0 c1 X2
  generalize u2.setCell ⟨w.heap.size,1,none⟩ (.slice (some ⟨g2,0,none⟩) n c2)=U at *
  have D:=zh (zu X3).drew
  have ul:=(zu X3).b3.lt.2
  refine wp_region_held_drew (S:=(fun w'=>w'.cell? ⟨w.heap.size,1,none⟩=some (.slice (some ⟨g2,0,none⟩) n c2))) (by kernel_rfl) (zu D).b3.c1 (fun hHeld=>?_)
  refine tk 0 (.pointer (some ⟨w.heap.size,1,none⟩)) rfl (by kernel_rfl) (fun _ _ _ h=>h) (by rfl) hHeld (fun w hSw=>by go_simp) ?_
  refine tk 1 (.slice (some ⟨g2,0,none⟩) n c2) rfl (by kernel_rfl) (fun _ _ _ h=>h) (by rfl) hHeld (fun w hSw=>by go_simp) ?_
  refine tk 2 (.pointer (some ⟨c,0,none⟩)) rfl (by kernel_rfl) (fun _ _ _ h=>h) (by rfl) hHeld (fun w hSw=>by go_simp) ?_
  try simp only[Act.put,zA,zB,zC]
  refine wpAnyH_ready (rs:=[3]) (by kernel_rfl) (by simp) ?_
  refine AllReadyH.cons rfl (fun K hK=>?_) AllReadyH.nil
  go_simp
  have D2:=zh ((zu D).bel (DrawN12.one_more U.drew (.cells #[.int .i64 (-1),.int .i64 0,.int .i64 1000000000000000,.int .i64 1000000000000001] 3)))
  refine hK.out _ _ (zu D2).b3.c1 (fun hHeld=>?_)
  clear hK K
  try simp only[Act.put,zA,zB,zC]
  try simp only[Act.put,zA,zB,zC]
  refine wpAnyH_ready (rs:=[4]) (by kernel_rfl) (by simp) ?_
  refine AllReadyH.cons rfl (fun K hK=>?_) AllReadyH.nil
  go_simp
  go_wp2_with fail
  refine(pick w0 _ c a len cap U.heap.size 4 (of4 (-1) 0 1000000000000000 1000000000000001) hl (zu HD) (zu D2).mv.1 (by omega) (by omega) (by simp) (by omega) (of4_cells U.drew 3 _ _ _ _)).mono ?_
  rintro e u4 ⟨⟨jj,hjj,rfl⟩,m1⟩
  have D3:=zh ((zu D2).mov m1)
  have z0:=(zu D3).o.at 0 (by omega)
  have z1:=World.ownsRow.frozenAt (zu D3).o 0
  have D4:=zh ((zu D3).head gg2.1 (of4 (-1) 0 1000000000000000 1000000000000001 jj))
  clear m1
  go_wp2_with fail
  refine hK.out _ _ (zu D3).b3.c1 (fun hHeld=>?_)
  clear hK K
  try simp only[Act.put,zA,zB,zC]
  refine tk 5 (.pointer (some ⟨g2,0,none⟩)) rfl (by kernel_rfl) (fun _ _ _ h=>h) (by rfl) hHeld (fun w hSw=>by go_simp;intro hz;omega) ?_
  try simp only[Act.put,zA,zB,zC]
  refine wpAnyH_ready (rs:=[6]) (by kernel_rfl) (by simp) ?_
  refine AllReadyH.cons rfl (fun K hK=>?_) AllReadyH.nil
  go_simp
  refine hK.out _ _ (zu D4).b3.c1 (fun hHeld=>?_)
  clear hK K
  try simp only[Act.put,zA,zB,zC]
  try simp only[Act.put,zA,zB,zC]
  refine wpAnyH_done (by kernel_rfl) ?_ _
  have F:=zh (zu D4).fin
  obtain⟨f0,f1,c0,c1⟩:=(zu D4).b3.opn
  obtain⟨e0,e1,d0,d1⟩:=(zu D4).b4.opn
  have wl3:=(zu D4).b3.lt.2
  have wl34:=(zu D4).b4.lt.2
  clear D D2 D3 D4 X3 z0 z1 hHeld
  generalize u4.setCell ⟨g2,0,none⟩ (.int .i64 (of4 (-1) 0 1000000000000000 1000000000000001 jj))=u5 at *
  go_wp2
  refine bodyPost_ret (v:= .agg #[.int .i64 k,.slice (some ⟨g2,0,none⟩) n c2]) (by simp[results,Tryz.results15,go_sem,d0,d1]) rfl ?_
  exact⟨k,g2,n,c2,_,rfl,(zu F).1,by omega,(zu F).2⟩
 have q0:(x==0)=false:=by simpa using h0
 have q1:(x==1)=false:=by simpa using h1
 have q2:(x==2)=false:=by simpa using h2
 clear h0 h1 h2
 obtain⟨f0,f1,c0,c1⟩:=(zu X).b3.opn
 obtain⟨e0,e1,d0,d1⟩:=(zu X).b4.opn
 have F:=zh (zu X).fin
 go_wp2
 refine bodyPost_ret (v:= .agg #[.int .i64 k,.slice (some ⟨g,0,none⟩) n cp]) (by simp[results,Tryz.results15,go_sem,d0,d1]) rfl ?_
 exact⟨k,g,n,cp,xs,rfl,(zu F).1,by omega,(zu F).2⟩
end DrawS12
namespace DrawP12
open BMem Bks Ans Draw Draw11 DrawN12 DrawX12 SRun12 DrawR12 DrawW12 DrawS12
open SIssue (row_ne)
open BHelp (row_block)
def CmdT(w:World)(e:Ending)(w':World):Prop:=
 ∃(k:Int) (g n cp:Nat) (xs:List Int),e= .returned (.agg #[.int .i64 k,.slice (some ⟨g,0,none⟩) n cp])∧Ints.Own w' 0 g n cp xs∧n≤8∧Below w.heap.size w w'
theorem drawCP(w:World)(a:Option Addr)(len cap:Nat)(hl:len≤1048576)(hcode:CodeAt w a len):
  Calls Tryz.prog 5 #[.slice a len cap] w (CmdT w):=by
 have s0:(w.alloc (.cells #[.int .i64 0,.slice none 0 0] 26)).heap.size=w.heap.size+1:=by simp
 have b0:=DrawN12.one_more w (.cells #[.int .i64 0,.slice none 0 0] 26)
 have K0:=zh (K2.made (t:=26) (w:=w) (base:=w.heap.size) (.int .i64 0) (.slice none 0 0) (Nat.le_refl _) rfl)
 have HD:=zh (CodeAt.below hcode b0)
 have B0:=zh b0
 clear hcode b0
 go_enter Tryz.func5,Tryz.ntmps5
 go_wp2_with fail
 generalize w.alloc (.cells #[.int .i64 0,.slice none 0 0] 26)=A at *
 refine(new A a len cap hl (zu HD)).mono ?_
 rintro e u1 ⟨c,rfl,hc⟩
 have C1:=zh hc
 have clo:=hc.lo
 clear hc
 go_wp2_with fail
 refine(row A u1 c a len cap _ (by omega) (by omega) hl (zu HD) (zu C1)).mono ?_
 rintro e u2 ⟨z,lv,rfl,oz,sm,mv⟩
 have chi:=(zu C1).hi
 have u12:=mv.2.1
 have M2:=zh (moved_alloc mv #[.slice (some ⟨z.ga,0,none⟩) z.b.ac.length z.ca,.slice (some ⟨z.gi,0,none⟩) z.b.ic.length z.ci,.slice (some ⟨z.gb,0,none⟩) z.b.bs.length z.cb,.slice (some ⟨z.gl,0,none⟩) z.b.ls.length z.cl,.slice (some ⟨z.gt,0,none⟩) z.b.ts.length z.ct,.int .i64 z.b.lot] 44)
 have b2:=DrawN12.one_more u2 (.cells #[.slice (some ⟨z.ga,0,none⟩) z.b.ac.length z.ca,.slice (some ⟨z.gi,0,none⟩) z.b.ic.length z.ci,.slice (some ⟨z.gb,0,none⟩) z.b.bs.length z.cb,.slice (some ⟨z.gl,0,none⟩) z.b.ls.length z.cl,.slice (some ⟨z.gt,0,none⟩) z.b.ts.length z.ct,.int .i64 z.b.lot] 44)
 have OZ:=zh (oz.below b2 (Nat.le_refl _))
 have SM:=zh sm
 have s2:=b2.size
 clear oz sm mv b2 C1
 go_wp2_with fail
 refine(next A _ c a len cap z hl (zu HD) (zu M2).1 ((zu OZ).rd (zu SM)) (ow_off (zu OZ) chi)).mono ?_
 rintro e u3 ⟨k,g,n,cp,xs,rfl,ox,n1,n7,mv⟩
 have gl:=ox.lt
 have C3:=zh mv.1
 have OX:=zh (ox.mono (Nat.zero_le _))
 clear OZ SM M2 mv ox
 go_wp2_with fail
 refine(spoil A u3 c a len cap k g n cp xs hl (zu HD) (zu C3) (zu OX) n1 n7 (by omega)).mono ?_
 rintro e u4 ⟨k',g',n',cp',ys,rfl,oy,n8,mv⟩
 have B4:=zh ((zu B0).trans (mv.1.bel.mono (by omega)))
 have K4:=zh (K2.blk (zu K0) (mv.1.bel.block _ (by omega)))
 have ne:=row_ne oy (zu K4) (by decide)
 have l4:=(zu K4).lt.2
 have FIN:=zh (show Ints.Own ((u4.setCell ⟨w.heap.size,0,none⟩ (.int .i64 k')).setCell ⟨w.heap.size,1,none⟩ (.slice (some ⟨g',0,none⟩) n' cp')) 0 g' n' cp' ys∧Below w.heap.size w ((u4.setCell ⟨w.heap.size,0,none⟩ (.int .i64 k')).setCell ⟨w.heap.size,1,none⟩ (.slice (some ⟨g',0,none⟩) n' cp')) from by
  obtain⟨b,q⟩:=(zu K4).set0 (.int .i64 k')
  obtain⟨d,r⟩:=b.set1 (.slice (some ⟨g',0,none⟩) n' cp')
  have o1:=row_block oy (q.block g' oy.lt.2 (fun e=>ne (by injection e)))
  exact⟨row_block o1 (r.block g' (World.ownsRow.lt o1 g' rfl).2 (fun e=>ne (by injection e))),((zu B4).setCell (by simp) _).setCell (by simp) _⟩)
 obtain⟨e0,e1,d0,d1⟩:=(zu K4).opn
 clear oy mv K0 K4 B0 C3 OX
 go_wp2
 refine bodyPost_ret (v:= .agg #[.int .i64 k',.slice (some ⟨g',0,none⟩) n' cp']) (by simp[results,Tryz.results5,go_sem,d0,d1]) rfl ?_
 exact⟨k',g',n',cp',ys,rfl,(zu FIN).1,n8,(zu FIN).2⟩
end DrawP12
namespace DrawQ12
open BMem Bks Ans Draw Draw11 DrawN12 DrawX12 SRun12 DrawR12 DrawW12
open SPackC12 (packC sCmdPack)
open SCmd (CmOk)
open DrawB12 (By drawB own_cap)
open Lots (Says says_of)
open SIssue (row_ne)
theorem two_bytes(U:World)(base:Nat){g:Nat}(hb:base≤U.heap.size)(hg:g=U.heap.size):ByteH.Own (U.alloc (.cells #[.int .u8 6,.int .u8 1] 5)) base g 2 2 [6,1]:=by
 subst hg
 exact World.ownsRow_lit U #[.int .u8 6,.int .u8 1] 2 hb (by decide) rfl
theorem drawCR(w:World)(a:Option Addr)(len cap:Nat)(hl:len≤1048576)(hcode:CodeAt w a len):
  Calls Tryz.prog 11 #[.slice a len cap] w fun e w'=>∃(ys:List Int) (g k:Nat),e= .returned (.slice (some ⟨g,0,none⟩) ys.length k)∧ByteH.Own w' w.heap.size g ys.length k ys∧ys.length≤81∧By ys∧Below w.heap.size w w':=by
 have HD:=zh hcode
 clear hcode
 go_enter Tryz.func11,Tryz.ntmps11
 go_wp2_with fail
 refine(new w a len cap hl (zu HD)).mono ?_
 rintro e u1 ⟨c,rfl,hc⟩
 have C1:=zh hc
 have clo:=hc.lo
 clear hc
 go_wp2_with fail
 refine(row w u1 c a len cap _ (by omega) (by omega) hl (zu HD) (zu C1)).mono ?_
 rintro e u2 ⟨z,lv,rfl,oz,sm,mv⟩
 have chi:=(zu C1).hi
 have u12:=mv.2.1
 have M2:=zh (moved_alloc mv #[.slice (some ⟨z.ga,0,none⟩) z.b.ac.length z.ca,.slice (some ⟨z.gi,0,none⟩) z.b.ic.length z.ci,.slice (some ⟨z.gb,0,none⟩) z.b.bs.length z.cb,.slice (some ⟨z.gl,0,none⟩) z.b.ls.length z.cl,.slice (some ⟨z.gt,0,none⟩) z.b.ts.length z.ct,.int .i64 z.b.lot] 44)
 have b2:=DrawN12.one_more u2 (.cells #[.slice (some ⟨z.ga,0,none⟩) z.b.ac.length z.ca,.slice (some ⟨z.gi,0,none⟩) z.b.ic.length z.ci,.slice (some ⟨z.gb,0,none⟩) z.b.bs.length z.cb,.slice (some ⟨z.gl,0,none⟩) z.b.ls.length z.cl,.slice (some ⟨z.gt,0,none⟩) z.b.ts.length z.ct,.int .i64 z.b.lot] 44)
 have OZ:=zh (oz.below b2 (Nat.le_refl _))
 have SM:=zh sm
 have s2:=b2.size
 clear oz sm mv b2 C1
 go_wp2_with fail
 refine(next w _ c a len cap z hl (zu HD) (zu M2).1 ((zu OZ).rd (zu SM)) (ow_off (zu OZ) chi)).mono ?_
 rintro e u3 ⟨k,g,n,cp,xs,rfl,ox,n1,n7,mv⟩
 obtain rfl:=ox.len
 have gl:=ox.lt
 have C3:=zh mv.1
 have OX:=zh ox
 clear OZ SM M2 mv ox
 obtain⟨b,hb⟩:=says_of (CmOk k xs)
 have HB:=zh hb
 clear hb
 go_wp2_with fail
 refine(sCmdPack u3 k g cp xs b (by omega) gl.2 (zu OX).at (zu HB)).mono ?_
 rintro e u4 ⟨g4,c4,rfl,o4,bb⟩
 have C4:=zh (Draw.cur_below (zu C3) bb)
 have O4:=zh o4
 have BY:=zh (RTC12.by_packC (k:=k) (xs:=xs) b (fun e=>(zu HB).1 e))
 have PL:=RTC12.packC_len (k:=k) (xs:=xs) b (fun e=>(zu HB).1 e)
 have g4l:=o4.lt
 have c3:=(zu C3).hi
 have b4:=zh (zu C4).bel
 clear bb o4 C3 OX
 cases b
 ·have T:=zh (two_bytes u4 w.heap.size (g:=u4.heap.size) (zu C4).bel.size rfl)
  have C5:=zh (Draw.Cur.alloc (zu C4) #[.int .u8 6,.int .u8 1] 5)
  have c4h:=(zu C4).hi
  clear C4 O4 BY PL
  go_wp2_with fail
  refine(drawB w _ c a len cap u4.heap.size 2 2 [6,1] hl (zu HD) (zu C5) (zu T) (by intro y hy;simp at hy;omega) (by omega) (by omega) (by omega)).mono ?_
  rintro e u5 ⟨ys,g',k',rfl,oy,ly,by',bb⟩
  have R:=zh (And.intro oy (And.intro ly (And.intro by' bb)))
  clear oy ly by' bb C5 T
  go_wp2
  go_ret
  exact⟨ys,g',k',rfl,zu R⟩
 ·generalize packC true k xs=ps at *
  have T:=zh (show ByteH.Own u4 w.heap.size g4 ps.length c4 ps from row_base (zu O4) (by have:=(zu b4).size;omega))
  go_wp2_with fail
  refine(drawB w _ c a len cap g4 ps.length c4 ps hl (zu HD) (zu C4) (zu T) (zu BY) (by omega) (own_cap (zu T)) (by omega)).mono ?_
  rintro e u5 ⟨ys,g',k',rfl,oy,ly,by',bb⟩
  have R:=zh (And.intro oy (And.intro ly (And.intro by' bb)))
  clear oy ly by' bb C4 T O4 BY
  go_wp2
  go_ret
  exact⟨ys,g',k',rfl,zu R⟩
end DrawQ12
end Go.Proofs.YtcjgepkdpkhljaaGreat
