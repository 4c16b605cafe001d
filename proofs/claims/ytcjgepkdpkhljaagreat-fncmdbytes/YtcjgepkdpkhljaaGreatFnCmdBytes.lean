/- For every row of bytes the law of commands as bytes returns true: a drawn command is read from its bytes as it was; drawn bytes that are read pack to just themselves. No condition. -/
import Derived.Test.YtcjgepkdpkhljaaGreatRows
import Derived.Test.YtcjgepkdpkhljaaGreatQG31
import Derived.Test.YtcjgepkdpkhljaaGreatQG36
import Derived.Laws.BytesArg
import Derived.ShutString
import Derived.ChangeOld
import Derived.Below
namespace Go.Proofs.YtcjgepkdpkhljaaGreat.fnCmdBytes
open Go.ChangeShapes Go.WideShapes Go.ChangeAt Go.RowKit
open Go.ChangeMaps (open_string shut_string)
set_option linter.unusedVariables false
set_option linter.unusedSimpArgs false
theorem own:ownKnob Tryz.prog.godebug=none:=by kernel_rfl
theorem laidOut:laidOutB Tryz.prog=true:=by kernel_rfl
open SBytes SPut11 SPuts11 RTC12
open SCmd (CmOk sCmdOk)
open SPackC12 (packC kind_in)
open SReadC12 (readC sCmdRead)
open Lots (Says says_of)
open Draw (CodeAt)
open DrawX12 (K2)
theorem own_capB{w:World}{base g n cap:Nat}{xs:List Int}(h:ByteH.Own w base g n cap xs):n≤cap:=by
 rcases h.2 with⟨h1,_⟩|⟨g',c,cur,h1,_,_,h4,_⟩
 ·simp at h1
 ·obtain⟨_,e⟩:g=g'∧cap=c:=by simpa using h1
  subst e
  exact h4
theorem get_in{xs:List Int}(h:DrawB12.By xs)(i:Nat)(hi:i<xs.length):0≤xs.getD i 0∧xs.getD i 0≤255:=by
 have e:xs.getD i 0=xs[i]:=by simp[List.getD,hi]
 rw[e]
 exact h _ (List.getElem_mem _)
theorem packC_ne{k:Int}{xs:List Int}(h:CmOk k xs):(packC true k xs).length≠0:=by
 have kk:=kind_in h
 rw[packC_flat h,List.flatMap_cons,List.length_append,numB_of (by omega)]
 have:(numF k.toNat).length≠0:=fun e=>RT11.numF_ne k.toNat (List.eq_nil_of_length_eq_zero e)
 omega
theorem str_of{w:World}{base n cap:Nat}{a:Option Addr}{xs:List Int}(h:VOB.Ob w base a n cap xs):(convert 22 9 (.slice a n cap)).run Tryz.prog w= .ok (.string (strOfNums xs)) w:=by
 have hl:=h.len
 rcases h.either with⟨rfl,rfl,rfl⟩|⟨g,rfl,o⟩
 ·exact run_convert_bytes_nil w _ _ Tryz.underlying22 Tryz.underlying5 0 cap _ Tryz.underlying9
 ·exact run_convert_bytes_arg w _ _ Tryz.underlying22 Tryz.underlying5 g 0 n cap xs hl (fun i hi=>by rw[Nat.zero_add];exact o.at i (by omega)) _ Tryz.underlying9
structure Kc(w W:World)(p:Nat)(k:Int)(g n cp:Nat)(xs:List Int):Prop where
 b:Below w.heap.size w W
 k:K2 26 W w.heap.size p (.int .i64 k) (.slice (some ⟨g,0,none⟩) n cp)
 o:Ints.Own W 0 g n cp xs
theorem Kc.step{w W W':World}{p:Nat}{k:Int}{g n cp:Nat}{xs:List Int}(h:Kc w W p k g n cp xs)(q:Below W.heap.size W W'):Kc w W' p k g n cp xs:=
 ⟨h.b.trans (q.mono h.b.size),h.k.blk (q.block _ h.k.lt.2),h.o.below q h.o.lt.2⟩
def Kx(p:Nat)(W:World)(v0 v1:Value):Prop:=K2 26 W 0 p v0 v1
theorem Kx.step{p:Nat}{W W':World}{v0 v1:Value}(h:Kx p W v0 v1)(k:Below W.heap.size W W'):Kx p W' v0 v1:=K2.blk h (k.block _ (K2.lt h).2)
theorem Kx.cs{p:Nat}{W:World}{v0 v1:Value}(h:Kx p W v0 v1):W.cell? ⟨p,0,none⟩=some v0∧W.cell? ⟨p,1,none⟩=some v1:=⟨K2.c0 h,K2.c1 h⟩
set_option maxRecDepth 100000 in
set_option maxHeartbeats 8000000 in
theorem walk(a0:Option Addr)(len0 cap0:Nat)(z0:List Int)(w:World)(w0:Ints.IsRow .u8 w a0 len0 cap0 z0):
  Calls Tryz.prog 3 #[.slice a0 len0 cap0] w fun e w'=>e= .returned (.bool true)∧Below w.heap.size w w':=by
 have hc:=Code11.codeAt w0
 have hm:=(Law11.row_bytes w0).2.2.2
 clear w0
 by_cases tl:(len0:Int)≤1048576
 case neg=>
  have HC:=zh hc
  clear hc
  go_enter Tryz.func3,Tryz.ntmps3
  go_wp2
  go_ret
  exact⟨rfl,Below.refl _ _⟩
 have HC:=zh hc
 have TL:len0≤1048576:=by omega
 clear hc hm
 go_enter Tryz.func3,Tryz.ntmps3
 go_wp2_with (first|(go_at_call 4;go_in)|fail)
 refine(DrawP12.drawCP _ a0 len0 cap0 TL (zu HC)).mono ?_
 rintro e u1 ⟨k,g,n,cp,xs,rfl,oc,n8,b1⟩
 obtain rfl:=oc.len
 have K1:=zh (show Kc w (u1.alloc (.cells #[.int .i64 k,.slice (some ⟨g,0,none⟩) xs.length cp] 26)) u1.heap.size k g xs.length cp xs from
  ⟨b1.alloc b1.size _,K2.made _ _ b1.size rfl,Shorts.own_alloc oc _⟩)
 clear oc b1
 obtain⟨b,hb⟩:=says_of (CmOk k xs)
 have HB:=zh hb
 clear hb
 have c0:=(zu K1).k.c0
 have c1:=(zu K1).k.c1
 go_wp2_with fail
 refine(IPackC12.iCmdPack _ k g cp xs b (by omega) (zu K1).o.lt.2 (zu K1).o.at (zu HB)).mono ?_
 rintro e u2 ⟨a2,c2,rfl,o2,bb⟩
 have K2':=zh ((zu K1).step bb)
 have O2:=zh o2
 clear bb o2 c0 c1 K1
 have c0:=(zu K2').k.c0
 have c1:=(zu K2').k.c1
 go_wp2_with fail
 refine(sCmdOk _ k g cp xs b (by omega) (zu K2').o.lt.2 (zu K2').o.at (zu HB)).mono ?_
 rintro e u3 ⟨rfl,bb⟩
 have K3:=zh ((zu K2').step bb)
 have O3:=zh ((zu O2).step bb)
 clear bb c0 c1 K2' O2
 have c0:=(zu K3).k.c0
 have c1:=(zu K3).k.c1
 have q1:(b !=b)=false:=by simp
 cases b with
 |false=>
  go_wp2_with fail
  refine(ICall10.iCmdOk _ k g cp xs false (by omega) (zu K3).o.lt.2 (zu K3).o.at (zu HB)).mono ?_
  rintro e u4 ⟨rfl,bb⟩
  have B:=zh ((zu K3).b.trans (bb.mono (zu K3).b.size))
  clear bb c0 c1 K3 O3 HB q1
  go_wp2_with fail
  refine(DrawQ12.drawCR _ a0 len0 cap0 TL ((zu HC).below (zu B))).mono ?_
  rintro e v1 ⟨ys,gy,ky,rfl,oy,ly,yb,bb⟩
  replace B:=zh ((zu B).trans (bb.mono (zu B).size))
  have OY:=zh oy
  have YB:=zh (show ∀i,i<ys.length→0≤ys.getD i 0∧ys.getD i 0≤255 from fun i hi=>get_in yb i hi)
  have ky1:=own_capB oy
  clear bb oy yb
  have PR:=zh (pack_readC ys (zu YB))
  have ZR:=zh (readC_none (xs:=ys))
  have IR:=zh (fun u hg hr=>IReadC12.iCmdRead u gy ky ys (by omega) ky1 hg hr)
  have SR:=zh (fun u hg hr=>sCmdRead u gy ky ys (by omega) hg hr)
  generalize readC ys=y at *
  obtain⟨r1,r2,r3⟩:=y
  simp only at PR ZR
  have q3:(r3 !=r3)=false:=by simp
  go_wp2_with fail
  refine((zu IR) _ (zu OY).lt.2 (fun i hi=>⟨(zu OY).at i hi,(zu YB) i hi⟩)).mono ?_
  rintro e v2 ⟨aR,cR,rfl,oR,bb⟩
  replace B:=zh ((zu B).trans (bb.mono (zu B).size))
  replace OY:=zh ((zu OY).below bb (zu OY).lt.2)
  clear bb
  have KX:=zh (show Kx v2.heap.size (v2.alloc (.cells #[.int .i64 r1,.slice aR r2.length cR] 26)) (.int .i64 r1) (.slice aR r2.length cR) from K2.made _ _ (Nat.zero_le _) rfl)
  have bb:=(Below.refl v2.heap.size v2).alloc (Nat.le_refl _) (.cells #[.int .i64 r1,.slice aR r2.length cR] 26)
  replace B:=zh ((zu B).trans (bb.mono (zu B).size))
  replace OY:=zh ((zu OY).below bb (zu OY).lt.2)
  have OR:=zh (oR.step bb)
  clear bb oR
  go_wp2_with fail
  refine((zu SR) _ (zu OY).lt.2 (fun i hi=>⟨(zu OY).at i hi,(zu YB) i hi⟩)).mono ?_
  rintro e v3 ⟨aS,cS,rfl,_,bb⟩
  replace B:=zh ((zu B).trans (bb.mono (zu B).size))
  replace OY:=zh ((zu OY).below bb (zu OY).lt.2)
  replace OR:=zh ((zu OR).step bb)
  replace KX:=zh (Kx.step (zu KX) bb)
  clear bb
  obtain⟨p0,p1⟩:=Kx.cs (zu KX)
  have pl:=(K2.lt (zu KX)).2
  have bb:=(Below.refl v3.heap.size v3).alloc (Nat.le_refl _) (.cells #[.int .i64 r1,.slice aS r2.length cS] 26)
  replace B:=zh ((zu B).trans (bb.mono (zu B).size))
  replace OY:=zh ((zu OY).below bb (zu OY).lt.2)
  replace OR:=zh ((zu OR).step bb)
  replace KX:=zh (Kx.step (zu KX) bb)
  clear bb
  cases r3 with
  |false=>
   obtain⟨rfl,rfl⟩:=(zu ZR) rfl
   go_wp2_with fail
   refine(IZero12.pack0 _ aR 0 cR).mono ?_
   rintro e v4 ⟨g4,k4,rfl,bb⟩
   replace B:=zh ((zu B).trans (bb.mono (zu B).size))
   replace KX:=zh (Kx.step (zu KX) bb)
   clear bb p0 p1
   obtain⟨p0,p1⟩:=Kx.cs (zu KX)
   go_wp2
   go_ret
   exact⟨rfl,zu B⟩
  |true=>
   obtain⟨ok2,pk⟩:=(zu PR) rfl
   have n2:r2.length≠0:=by
    have a:=ok2.1
    have b:=kind_in ok2
    intro e
    rw[e] at a
    have:SCmd.nArgs r1≠0:=by
     unfold SCmd.nArgs
     repeat' split
     all_goals omega
    exact this a.symm
   obtain⟨gR,rfl,ow⟩:∃g,aR=some ⟨g,0,none⟩∧Ints.Own _ _ g r2.length cR r2:=by
    rcases(zu OR).either with⟨_,h,_⟩|h
    ·exact absurd h n2
    ·exact h
   have OW:=zh ow
   have l2:=RTC12.len7 ok2
   clear ow OR n2
   go_wp2_with fail
   refine(IPackC12.iCmdPack _ r1 gR cR r2 true (by omega) (zu OW).lt.2 (zu OW).at ⟨fun _=>ok2,fun _=>rfl⟩).mono ?_
   rintro e v4 ⟨a4,c4,rfl,o4,bb⟩
   replace B:=zh ((zu B).trans (bb.mono (zu B).size))
   replace OY:=zh ((zu OY).below bb (zu OY).lt.2)
   replace KX:=zh (Kx.step (zu KX) bb)
   clear bb p0 p1 OW
   obtain⟨p0,p1⟩:=Kx.cs (zu KX)
   rw[pk] at o4⊢
   have sc1:=str_of o4
   have sc2:=str_of (VOB.Ob.of (zu OY))
   generalize strOfNums ys=st at *
   clear o4 pk ok2
   go_wp2
   go_ret
   exact⟨rfl,zu B⟩
 |true=>
  have OK:=zh (zu HB).yes
  go_wp2_with fail
  refine(ICall10.iCmdOk _ k g cp xs true (by omega) (zu K3).o.lt.2 (zu K3).o.at (zu HB)).mono ?_
  rintro e u4 ⟨rfl,bb⟩
  have K4:=zh ((zu K3).step bb)
  have O4:=zh ((zu O3).step bb)
  clear bb c0 c1 K3 O3 q1
  have nz:=packC_ne (zu OK)
  have RE:=zh (read_packC (zu OK))
  have PL:=packC_len (k:=k) (xs:=xs) true (fun _=>zu OK)
  have PB:=zh (by_packC (k:=k) (xs:=xs) true (fun _=>zu OK))
  generalize packC true k xs=ps at *
  obtain⟨g2,rfl,ow⟩:∃g,a2=some ⟨g,0,none⟩∧ByteH.Own _ _ g ps.length c2 ps:=by
   rcases(zu O4).either with⟨_,h,_⟩|h
   ·exact absurd h nz
   ·exact h
  have OW:=zh ow
  clear ow O4 nz
  have IR:=zh (IReadC12.iCmdRead u4 g2 c2 ps (by omega) (own_capB (zu OW)) (zu OW).lt.2 (fun i hi=>⟨(zu OW).at i hi,get_in (zu PB) i hi⟩))
  rw[zu RE] at IR
  go_wp2_with fail
  refine(zu IR).mono ?_
  rintro e u5 ⟨a5,c5,rfl,o5,bb⟩
  have K5:=zh ((zu K4).step bb)
  clear bb IR OW PB RE K4
  have n1:xs.length≠0:=by
   have a:=(zu OK).1
   have b:=kind_in (zu OK)
   intro e
   rw[e] at a
   have:SCmd.nArgs k≠0:=by
    unfold SCmd.nArgs
    repeat' split
    all_goals omega
   exact this a.symm
  obtain⟨g5,rfl,ow⟩:∃g,a5=some ⟨g,0,none⟩∧Ints.Own _ _ g xs.length c5 xs:=by
   rcases o5.either with⟨_,h,_⟩|h
   ·exact absurd h n1
   ·exact h
  have bb:=(Below.refl u5.heap.size u5).alloc (Nat.le_refl _) (.cells #[.int .i64 k,.slice (some ⟨g5,0,none⟩) xs.length c5] 26)
  have K6:=zh ((zu K5).step bb)
  have O6:=zh (ow.below bb ow.lt.2)
  clear bb ow o5 K5
  have c0:=(zu K6).k.c0
  have c1:=(zu K6).k.c1
  have kk:(k !=k)=false:=by simp
  go_wp2_with fail
  refine(Code11.same _ g5 g xs.length c5 cp xs rfl (by omega) (zu O6).at (zu K6).o.at).mono ?_
  rintro e u7 ⟨rfl,bb⟩
  have B:=zh ((zu K6).step bb).b
  clear bb c0 c1 kk K6 O6 OK HB n1 PL
  go_wp2_with fail
  refine(DrawQ12.drawCR _ a0 len0 cap0 TL ((zu HC).below (zu B))).mono ?_
  rintro e v1 ⟨ys,gy,ky,rfl,oy,ly,yb,bb⟩
  replace B:=zh ((zu B).trans (bb.mono (zu B).size))
  have OY:=zh oy
  have YB:=zh (show ∀i,i<ys.length→0≤ys.getD i 0∧ys.getD i 0≤255 from fun i hi=>get_in yb i hi)
  have ky1:=own_capB oy
  clear bb oy yb
  have PR:=zh (pack_readC ys (zu YB))
  have ZR:=zh (readC_none (xs:=ys))
  have IR:=zh (fun u hg hr=>IReadC12.iCmdRead u gy ky ys (by omega) ky1 hg hr)
  have SR:=zh (fun u hg hr=>sCmdRead u gy ky ys (by omega) hg hr)
  generalize readC ys=y at *
  obtain⟨r1,r2,r3⟩:=y
  simp only at PR ZR
  have q3:(r3 !=r3)=false:=by simp
  go_wp2_with fail
  refine((zu IR) _ (zu OY).lt.2 (fun i hi=>⟨(zu OY).at i hi,(zu YB) i hi⟩)).mono ?_
  rintro e v2 ⟨aR,cR,rfl,oR,bb⟩
  replace B:=zh ((zu B).trans (bb.mono (zu B).size))
  replace OY:=zh ((zu OY).below bb (zu OY).lt.2)
  clear bb
  have KX:=zh (show Kx v2.heap.size (v2.alloc (.cells #[.int .i64 r1,.slice aR r2.length cR] 26)) (.int .i64 r1) (.slice aR r2.length cR) from K2.made _ _ (Nat.zero_le _) rfl)
  have bb:=(Below.refl v2.heap.size v2).alloc (Nat.le_refl _) (.cells #[.int .i64 r1,.slice aR r2.length cR] 26)
  replace B:=zh ((zu B).trans (bb.mono (zu B).size))
  replace OY:=zh ((zu OY).below bb (zu OY).lt.2)
  have OR:=zh (oR.step bb)
  clear bb oR
  go_wp2_with fail
  refine((zu SR) _ (zu OY).lt.2 (fun i hi=>⟨(zu OY).at i hi,(zu YB) i hi⟩)).mono ?_
  rintro e v3 ⟨aS,cS,rfl,_,bb⟩
  replace B:=zh ((zu B).trans (bb.mono (zu B).size))
  replace OY:=zh ((zu OY).below bb (zu OY).lt.2)
  replace OR:=zh ((zu OR).step bb)
  replace KX:=zh (Kx.step (zu KX) bb)
  clear bb
  obtain⟨p0,p1⟩:=Kx.cs (zu KX)
  have pl:=(K2.lt (zu KX)).2
  have bb:=(Below.refl v3.heap.size v3).alloc (Nat.le_refl _) (.cells #[.int .i64 r1,.slice aS r2.length cS] 26)
  replace B:=zh ((zu B).trans (bb.mono (zu B).size))
  replace OY:=zh ((zu OY).below bb (zu OY).lt.2)
  replace OR:=zh ((zu OR).step bb)
  replace KX:=zh (Kx.step (zu KX) bb)
  clear bb
  cases r3 with
  |false=>
   obtain⟨rfl,rfl⟩:=(zu ZR) rfl
   go_wp2_with fail
   refine(IZero12.pack0 _ aR 0 cR).mono ?_
   rintro e v4 ⟨g4,k4,rfl,bb⟩
   replace B:=zh ((zu B).trans (bb.mono (zu B).size))
   replace KX:=zh (Kx.step (zu KX) bb)
   clear bb p0 p1
   obtain⟨p0,p1⟩:=Kx.cs (zu KX)
   go_wp2
   go_ret
   exact⟨rfl,zu B⟩
  |true=>
   obtain⟨ok2,pk⟩:=(zu PR) rfl
   have n2:r2.length≠0:=by
    have a:=ok2.1
    have b:=kind_in ok2
    intro e
    rw[e] at a
    have:SCmd.nArgs r1≠0:=by
     unfold SCmd.nArgs
     repeat' split
     all_goals omega
    exact this a.symm
   obtain⟨gR,rfl,ow⟩:∃g,aR=some ⟨g,0,none⟩∧Ints.Own _ _ g r2.length cR r2:=by
    rcases(zu OR).either with⟨_,h,_⟩|h
    ·exact absurd h n2
    ·exact h
   have OW:=zh ow
   have l2:=RTC12.len7 ok2
   clear ow OR n2
   go_wp2_with fail
   refine(IPackC12.iCmdPack _ r1 gR cR r2 true (by omega) (zu OW).lt.2 (zu OW).at ⟨fun _=>ok2,fun _=>rfl⟩).mono ?_
   rintro e v4 ⟨a4,c4,rfl,o4,bb⟩
   replace B:=zh ((zu B).trans (bb.mono (zu B).size))
   replace OY:=zh ((zu OY).below bb (zu OY).lt.2)
   replace KX:=zh (Kx.step (zu KX) bb)
   clear bb p0 p1 OW
   obtain⟨p0,p1⟩:=Kx.cs (zu KX)
   rw[pk] at o4⊢
   have sc1:=str_of o4
   have sc2:=str_of (VOB.Ob.of (zu OY))
   generalize strOfNums ys=st at *
   clear o4 pk ok2
   go_wp2
   go_ret
   exact⟨rfl,zu B⟩
set_option maxRecDepth 100000 in
theorem lifted(os:Os)(started:os.Started)(H:Type)(enc:TypeId×Value→H):
  ReturnsInHanded {} Tryz.checked os 3 .any (Rows.fnCmdBytesSpec.pre6 enc Tryz.prog Tryz.f3 Rows.fnCmdBytesRow.domain false) (Rows.fnCmdBytesSpec.post enc Tryz.prog Tryz.f3 false true false false):=by
 refine returnsInHanded_of_change (C:=Tryz.checked) own started (by kernel_rfl) Tryz.func3
  (ChangeSpec.witness6 (enc:=enc) (C:=Tryz.checked) false ⟨#[],#[.slice none 0 0],[]⟩ 8 (by kernel_rfl) (by kernel_rfl) (by kernel_rfl) (by kernel_rfl)) ?_
 intro W base args ds gs before hval0 hW hcnd _
 have hval:∀(j:Nat) t v,Tryz.f3.params[j]?=some t→args[j]?=some v→Value.okWide Tryz.prog W .any base t v:=hval0
 have hW':=hW
 obtain⟨p,q,hA0,hV,rfl,hfz,hnd⟩:=hW
 have hA:DataW.TrodAll enc Tryz.prog W 0 (fun _=>true) true Tryz.f3.params.toList args.toList ds p:=hA0
 rw[Tryz.params3] at hA hval
 obtain⟨v0,vs0,d0,ds0,p0,q0,hargs,rfl,rfl,h0,r0⟩:=trodAll_cons hA
 obtain⟨rfl,rfl,rfl⟩:=trodAll_nil r0
 obtain rfl:args= #[v0]:=by cases args;simp_all
 obtain⟨rfl,rfl⟩:=trodVars_none hV
 obtain⟨a0,len0,cap0,rfl⟩:=okWide_slice Tryz.underlying22 (hval 0 22 v0 rfl rfl)
 have k0:=h0
 have lt0:∀x∈p0,x.block<W.heap.size:=by obtain⟨m,hm⟩:=k0;exact DataW.trod_lt m _ _ _ hm
 obtain⟨z0,w0⟩:∃zs,Ints.IsRow .u8 W a0 len0 cap0 zs:=by
  obtain⟨fuel,hf⟩:=h0
  rcases open_ints Tryz.underlying22 Tryz.underlying5 (by kernel_rfl) hf with⟨hcs,_⟩|⟨x,l,c,zs,hcs,_,hl,hm,hz,_,hcell,hwz⟩
  ·simp[Value.cells] at hcs
   obtain⟨rfl,rfl,rfl⟩:=hcs
   exact⟨[],.inl ⟨rfl,rfl,rfl,rfl⟩⟩
  ·simp[Value.cells] at hcs
   obtain⟨rfl,rfl,rfl⟩:=hcs
   exact⟨zs,.inr ⟨_,rfl,hl,hm,by simpa using hz,hcell,hwz⟩⟩
 clear hA0 hval0
 refine(walk a0 len0 cap0 z0 W w0).mono fun e W' ⟨he,bel⟩=>?_
 subst he
 exact⟨_,rfl,_,_,_,[],_,[],hW',trodAll_mk1 (shut_bool Tryz.underlying4 _),(trodAll_cons_mk (Below.trod laidOut (by kernel_rfl) (of_decide_eq_true (by kernel_rfl)) k0 bel lt0) trodAll_mk0),rfl,bel.frame _,fun h=>by cases h⟩
theorem over:Rows.fnCmdBytesRow.holds Tryz.pinned (OpenSpec.ofChange Rows.fnCmdBytesSpec):=
 OpenClaim.holds_of_wide 3 Tryz.f3 rfl rfl rfl rfl rfl rfl rfl ⟨rfl,rfl,rfl,rfl,rfl⟩ rfl rfl rfl rfl rfl (by kernel_rfl) Tryz.func3 (by kernel_rfl)
  (of_decide_eq_true (by kernel_rfl)) (by unfold Func.isWrapper;first|(rw[if_pos (by decide+kernel)];kernel_rfl)|(rw[if_neg (by decide+kernel)];exact⟨rfl,rfl⟩))
  (fun os started H enc _=>lifted os started H enc)
theorem proved:Rows.FnCmdBytesSaid:=over
#print axioms proved
end Go.Proofs.YtcjgepkdpkhljaaGreat.fnCmdBytes
