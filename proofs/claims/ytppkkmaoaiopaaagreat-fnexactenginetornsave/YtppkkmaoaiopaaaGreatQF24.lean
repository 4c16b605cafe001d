/- Lemmas. -/
import Derived.Test.YtppkkmaoaiopaaaGreatQF14
import Derived.Test.YtppkkmaoaiopaaaGreatQF23
open Go.ChangeShapes Go.WideShapes Go.ChangeAt Go.RowKit
set_option linter.unusedVariables false
set_option linter.unusedSimpArgs false
set_option maxRecDepth 100000
set_option maxHeartbeats 32000000
namespace Go.Proofs.YtppkkmaoaiopaaaGreat
namespace ICopiedI17
open BHelp (Ix)
open BMemV13 (ClV)
open BMem Bks ILists AnyInv Copy
open BHelp (row_apart)
open IBalsFit (one_more)
def Ch(W:World)(base:Nat)(e:TypeId)(size:Nat)(fb ff fl fa:Bool)(vb vf vl va pf src:Value)(n:Nat)(xs:List Value):Prop:=
 (ff=true→vf=pf)∧(fl=true→vl=src)∧(fb=true→fa=false→∃g,vb= .slice (some ⟨g,0,none⟩) 0 0∧W.ownsRow base e size (.slice (some ⟨g,0,none⟩) 0 0) 0 [])∧(fa=true→∃g c,va= .slice (some ⟨g,0,none⟩) n c∧W.ownsRow base e size (.slice (some ⟨g,0,none⟩) n c) n xs)
section
variable {W W':World} {base:Nat} {e:TypeId} {size:Nat} {fb ff fl fa:Bool} {vb vf vl va pf src:Value} {n:Nat} {xs:List Value}
theorem Ch.zero(W:World)(base:Nat)(e:TypeId)(size:Nat)(vb vf vl va pf src:Value)(n:Nat)(xs:List Value):Ch W base e size false false false false vb vf vl va pf src n xs:=
 ⟨(fun h=>by cases h),(fun h=>by cases h),(fun h=>by cases h),(fun h=>by cases h)⟩
theorem Ch.addr(h:Ch W base e size fb ff fl fa vb vf vl va pf src n xs):Ch W base e size fb true fl fa vb pf vl va pf src n xs:=⟨fun _=>rfl,h.2⟩
theorem Ch.load(h:Ch W base e size fb ff fl fa vb vf vl va pf src n xs):Ch W base e size fb ff true fa vb vf src va pf src n xs:=⟨h.1,fun _=>rfl,h.2.2⟩
theorem Ch.alloc(h:Ch W base e size fb ff fl fa vb vf vl va pf src n xs)(o:Obj):Ch (W.alloc o) base e size fb ff fl fa vb vf vl va pf src n xs:=by
 refine⟨h.1,h.2.1,fun a b=>?_,fun a=>?_⟩
 ·obtain⟨g,e1,o1⟩:=h.2.2.1 a b
  exact⟨g,e1,o1.alloc o⟩
 ·obtain⟨g,c,e1,o1⟩:=h.2.2.2 a
  exact⟨g,c,e1,o1.alloc o⟩
theorem Ch.start(h:Ch W base e size fb ff fl fa vb vf vl va pf src n xs)(hb:base≤W.heap.size):Ch (W.alloc (.cells #[] e)) base e size true ff fl fa (.slice (some ⟨W.heap.size,0,none⟩) 0 0) vf vl va pf src n xs:=by
 refine⟨h.1,h.2.1,fun _ _=>⟨W.heap.size,rfl,World.ownsRow_made W #[] 0 hb (by unfold maxLen;omega) (by simp)⟩,fun a=>?_⟩
 obtain⟨g,c,e1,o1⟩:=h.2.2.2 a
 exact⟨g,c,e1,o1.alloc _⟩
theorem Ch.kept{g0:Nat}(h:Ch W base e size fb ff fl fa vb vf vl va pf src n xs)(k:W.grownBy W' (some g0))(hne:∀(m c:Nat) (ys:List Value),¬W.ownsRow base e size (.slice (some ⟨g0,0,none⟩) m c) m ys):Ch W' base e size fb ff fl fa vb vf vl va pf src n xs:=by
 refine⟨h.1,h.2.1,fun a b=>?_,fun a=>?_⟩
 ·obtain⟨g,e1,o1⟩:=h.2.2.1 a b
  exact⟨g,e1,o1.kept k (Or.inr (fun e=>by
   have:g=g0:=by simpa[Value.ownBlock] using e
   subst this
   exact hne _ _ _ o1))⟩
 ·obtain⟨g,c,e1,o1⟩:=h.2.2.2 a
  exact⟨g,c,e1,o1.kept k (Or.inr (fun e=>by
   have:g=g0:=by simpa[Value.ownBlock] using e
   subst this
   exact hne _ _ _ o1))⟩
theorem Ch.app{g c:Nat}(h:Ch W base e size fb ff fl fa vb vf vl va pf src n xs)(o1:W'.ownsRow base e size (.slice (some ⟨g,0,none⟩) n c) n xs):Ch W' base e size fb ff fl true vb vf vl (.slice (some ⟨g,0,none⟩) n c) pf src n xs:=
 ⟨h.1,h.2.1,(fun _ b=>by cases b),fun _=>⟨g,c,rfl,o1⟩⟩
end
theorem copyIAccount(w:World)(base g cap:Nat)(hown:w.ownsRow base 129 2 (.slice (some ⟨g,0,none⟩) 0 cap) 0 [])(ty:TypeId)(a:Option Addr)(c:Nat)(ps:List (Int×Int))(h:(∃b,a=some ⟨b,0,none⟩∧b<w.heap.size∧Pairs.At w b ps∧ps.length≤1048576)∨(a=none∧c=0∧ps=[]))(hbase:base≤w.heap.size):
  ∃g' c' w',(Builtin.append_ #[38,38] ty #[.slice (some ⟨g,0,none⟩) 0 cap,.slice a ps.length c]).run Tryz.prog w= .ok (.slice (some ⟨g',0,none⟩) ps.length c') w'∧w'.ownsRow base 129 2 (.slice (some ⟨g',0,none⟩) ps.length c') ps.length (Pairs.flat ps)∧w.grownBy w' (some g)∧(g'=g∨g'=w.heap.size):=by
 rcases h with⟨b,rfl,_,h,hm⟩|⟨rfl,rfl,rfl⟩
 ·exact copyAccount w base g cap hown ty b c ps h hm hbase
 ·obtain⟨i0,hi,_,_,_⟩:=info_parts infoAccount
  exact⟨g,cap,w,run_append_owned_none (P:=Tryz.prog) w base 38 ty 129 i0 2 Tryz.underlying38 hi _ 0 [] hown,hown,⟨rfl,rfl,rfl,Nat.le_refl _,fun _ _ _=>rfl⟩,.inl rfl⟩
theorem copyIInstr(w:World)(base g cap:Nat)(hown:w.ownsRow base 130 2 (.slice (some ⟨g,0,none⟩) 0 cap) 0 [])(ty:TypeId)(a:Option Addr)(c:Nat)(ps:List (Int×Int))(h:(∃b,a=some ⟨b,0,none⟩∧b<w.heap.size∧Pairs.At w b ps∧ps.length≤1048576)∨(a=none∧c=0∧ps=[]))(hbase:base≤w.heap.size):
  ∃g' c' w',(Builtin.append_ #[39,39] ty #[.slice (some ⟨g,0,none⟩) 0 cap,.slice a ps.length c]).run Tryz.prog w= .ok (.slice (some ⟨g',0,none⟩) ps.length c') w'∧w'.ownsRow base 130 2 (.slice (some ⟨g',0,none⟩) ps.length c') ps.length (Pairs.flat ps)∧w.grownBy w' (some g)∧(g'=g∨g'=w.heap.size):=by
 rcases h with⟨b,rfl,_,h,hm⟩|⟨rfl,rfl,rfl⟩
 ·exact copyInstr w base g cap hown ty b c ps h hm hbase
 ·obtain⟨i0,hi,_,_,_⟩:=info_parts infoInstr
  exact⟨g,cap,w,run_append_owned_none (P:=Tryz.prog) w base 39 ty 130 i0 2 Tryz.underlying39 hi _ 0 [] hown,hown,⟨rfl,rfl,rfl,Nat.le_refl _,fun _ _ _=>rfl⟩,.inl rfl⟩
theorem copyIBal(w:World)(base g cap:Nat)(hown:w.ownsRow base 132 3 (.slice (some ⟨g,0,none⟩) 0 cap) 0 [])(ty:TypeId)(a:Option Addr)(c:Nat)(ps:List Bals.T3)(h:(∃b,a=some ⟨b,0,none⟩∧b<w.heap.size∧Triples.At3 w b ps∧ps.length≤1048576)∨(a=none∧c=0∧ps=[]))(hbase:base≤w.heap.size):
  ∃g' c' w',(Builtin.append_ #[40,40] ty #[.slice (some ⟨g,0,none⟩) 0 cap,.slice a ps.length c]).run Tryz.prog w= .ok (.slice (some ⟨g',0,none⟩) ps.length c') w'∧w'.ownsRow base 132 3 (.slice (some ⟨g',0,none⟩) ps.length c') ps.length (Triples.flat3 ps)∧w.grownBy w' (some g)∧(g'=g∨g'=w.heap.size):=by
 rcases h with⟨b,rfl,_,h,hm⟩|⟨rfl,rfl,rfl⟩
 ·exact copyBal w base g cap hown ty b c ps h hm hbase
 ·obtain⟨i0,hi,_,_,_⟩:=info_parts infoBal
  exact⟨g,cap,w,run_append_owned_none (P:=Tryz.prog) w base 40 ty 132 i0 3 Tryz.underlying40 hi _ 0 [] hown,hown,⟨rfl,rfl,rfl,Nat.le_refl _,fun _ _ _=>rfl⟩,.inl rfl⟩
theorem copyILot(w:World)(base g cap:Nat)(hown:w.ownsRow base 134 5 (.slice (some ⟨g,0,none⟩) 0 cap) 0 [])(ty:TypeId)(a:Option Addr)(c:Nat)(ps:List Tup5.T5)(h:(∃b,a=some ⟨b,0,none⟩∧b<w.heap.size∧Tup5.At5 w b ps∧ps.length≤1048576)∨(a=none∧c=0∧ps=[]))(hbase:base≤w.heap.size):
  ∃g' c' w',(Builtin.append_ #[41,41] ty #[.slice (some ⟨g,0,none⟩) 0 cap,.slice a ps.length c]).run Tryz.prog w= .ok (.slice (some ⟨g',0,none⟩) ps.length c') w'∧w'.ownsRow base 134 5 (.slice (some ⟨g',0,none⟩) ps.length c') ps.length (Tup5.flat5 ps)∧w.grownBy w' (some g)∧(g'=g∨g'=w.heap.size):=by
 rcases h with⟨b,rfl,_,h,hm⟩|⟨rfl,rfl,rfl⟩
 ·exact copyLot w base g cap hown ty b c ps h hm hbase
 ·obtain⟨i0,hi,_,_,_⟩:=info_parts infoLot
  exact⟨g,cap,w,run_append_owned_none (P:=Tryz.prog) w base 41 ty 134 i0 5 Tryz.underlying41 hi _ 0 [] hown,hown,⟨rfl,rfl,rfl,Nat.le_refl _,fun _ _ _=>rfl⟩,.inl rfl⟩
theorem copyITrade(w:World)(base g cap:Nat)(hown:w.ownsRow base 136 8 (.slice (some ⟨g,0,none⟩) 0 cap) 0 [])(ty:TypeId)(a:Option Addr)(c:Nat)(ps:List Tup8.T8)(h:(∃b,a=some ⟨b,0,none⟩∧b<w.heap.size∧Tup8.At8 w b ps∧ps.length≤1048576)∨(a=none∧c=0∧ps=[]))(hbase:base≤w.heap.size):
  ∃g' c' w',(Builtin.append_ #[42,42] ty #[.slice (some ⟨g,0,none⟩) 0 cap,.slice a ps.length c]).run Tryz.prog w= .ok (.slice (some ⟨g',0,none⟩) ps.length c') w'∧w'.ownsRow base 136 8 (.slice (some ⟨g',0,none⟩) ps.length c') ps.length (Tup8.flat8 ps)∧w.grownBy w' (some g)∧(g'=g∨g'=w.heap.size):=by
 rcases h with⟨b,rfl,_,h,hm⟩|⟨rfl,rfl,rfl⟩
 ·exact copyTrade w base g cap hown ty b c ps h hm hbase
 ·obtain⟨i0,hi,_,_,_⟩:=info_parts infoTrade
  exact⟨g,cap,w,run_append_owned_none (P:=Tryz.prog) w base 42 ty 136 i0 8 Tryz.underlying42 hi _ 0 [] hown,hown,⟨rfl,rfl,rfl,Nat.le_refl _,fun _ _ _=>rfl⟩,.inl rfl⟩
structure SrcI(w:World)(x:Ix):Prop where
 sa:(∃b,x.aa=some ⟨b,0,none⟩∧b<w.heap.size∧Pairs.At w b x.b.ac∧x.b.ac.length≤1048576)∨(x.aa=none∧x.ca=0∧x.b.ac=[])
 si:(∃b,x.ai=some ⟨b,0,none⟩∧b<w.heap.size∧Pairs.At w b x.b.ic∧x.b.ic.length≤1048576)∨(x.ai=none∧x.ci=0∧x.b.ic=[])
 sb:(∃b,x.ab=some ⟨b,0,none⟩∧b<w.heap.size∧Triples.At3 w b x.b.bs∧x.b.bs.length≤1048576)∨(x.ab=none∧x.cb=0∧x.b.bs=[])
 sl:(∃b,x.al=some ⟨b,0,none⟩∧b<w.heap.size∧Tup5.At5 w b x.b.ls∧x.b.ls.length≤1048576)∨(x.al=none∧x.cl=0∧x.b.ls=[])
 st:(∃b,x.ats=some ⟨b,0,none⟩∧b<w.heap.size∧Tup8.At8 w b x.b.ts∧x.b.ts.length≤1048576)∨(x.ats=none∧x.ct=0∧x.b.ts=[])
theorem SrcI.below{w w':World}{x:Ix}(h:SrcI w x)(k:Below w.heap.size w w'):SrcI w' x:=
 ⟨h.sa.imp (fun⟨b,e,l,r,n⟩=>⟨b,e,Nat.lt_of_lt_of_le l k.size,r.below k l,n⟩) id,h.si.imp (fun⟨b,e,l,r,n⟩=>⟨b,e,Nat.lt_of_lt_of_le l k.size,r.below k l,n⟩) id,h.sb.imp (fun⟨b,e,l,r,n⟩=>⟨b,e,Nat.lt_of_lt_of_le l k.size,r.below k l,n⟩) id,h.sl.imp (fun⟨b,e,l,r,n⟩=>⟨b,e,Nat.lt_of_lt_of_le l k.size,r.below k l,n⟩) id,h.st.imp (fun⟨b,e,l,r,n⟩=>⟨b,e,Nat.lt_of_lt_of_le l k.size,r.below k l,n⟩) id⟩
theorem other{W:World}{base base':Nat}{e e':TypeId}{size size':Nat}{g n cap:Nat}{xs:List Value}(h:W.ownsRow base e size (.slice (some ⟨g,0,none⟩) n cap) n xs)(ne:e≠e'):∀(m c:Nat) (ys:List Value),¬W.ownsRow base' e' size' (.slice (some ⟨g,0,none⟩) m c) m ys:=
 fun m c ys k=>row_apart h k ne rfl
def Inv(w:World)(x:Ix)(listed:Array Bool)(a:Act)(W:World):Prop:=
 ∃(b0 b1 b2 b3 b4 b5 b6 b7 b8 b9 b10 b11 b12 b13 b14 b15 b16 b17 b18 b19 b20 b21 b22 b23:Bool) (v3 v4 v5 v6 v7 v8 v9 v10 v11 v12 v13 v14 v15 v16 v17 v18 v19 v20 v21 v22 v23 v24 v25 r0 r1 r2 r3 r4 r5:Value),listed= #[b0,b1,b2,b3,b4,b5,b6,b7,b8,b9,b10,b11,b12,b13,b14,b15,b16,b17,b18,b19,b20,b21,b22,b23]∧a={tmps:= #[.agg #[.slice x.aa x.b.ac.length x.ca,.slice x.ai x.b.ic.length x.ci,.slice x.ab x.b.bs.length x.cb,.slice x.al x.b.ls.length x.cl,.slice x.ats x.b.ts.length x.ct,.int .i64 x.b.lot],.pointer (some ⟨w.heap.size,0,none⟩),.pointer (some ⟨w.heap.size+1,0,none⟩),v3,v4,v5,v6,v7,v8,v9,v10,v11,v12,v13,v14,v15,v16,v17,v18,v19,v20,v21,v22,v23,v24,v25],defers:=[]}∧
  Below w.heap.size w W∧ClV W w.heap.size x∧Box W w.heap.size (w.heap.size+1) r0 r1 r2 r3 r4 r5∧
  Ch W (w.heap.size+2) 129 2 b0 b1 b2 b3 v3 v4 v5 v6 (.pointer (some ⟨w.heap.size,0,none⟩)) (.slice x.aa x.b.ac.length x.ca) x.b.ac.length (Pairs.flat x.b.ac)∧Ch W (w.heap.size+2) 130 2 b4 b5 b6 b7 v7 v8 v9 v10 (.pointer (some ⟨w.heap.size,1,none⟩)) (.slice x.ai x.b.ic.length x.ci) x.b.ic.length (Pairs.flat x.b.ic)∧Ch W (w.heap.size+2) 132 3 b8 b9 b10 b11 v11 v12 v13 v14 (.pointer (some ⟨w.heap.size,2,none⟩)) (.slice x.ab x.b.bs.length x.cb) x.b.bs.length (Triples.flat3 x.b.bs)∧Ch W (w.heap.size+2) 134 5 b12 b13 b14 b15 v15 v16 v17 v18 (.pointer (some ⟨w.heap.size,3,none⟩)) (.slice x.al x.b.ls.length x.cl) x.b.ls.length (Tup5.flat5 x.b.ls)∧Ch W (w.heap.size+2) 136 8 b16 b17 b18 b19 v19 v20 v21 v22 (.pointer (some ⟨w.heap.size,4,none⟩)) (.slice x.ats x.b.ts.length x.ct) x.b.ts.length (Tup8.flat8 x.b.ts)∧
  (b20=true→v23= .pointer (some ⟨w.heap.size,5,none⟩))∧(b21=true→v24= .int .i64 x.b.lot)∧(b22=true→(b3=true∧b7=true∧b11=true∧b15=true∧b19=true)∧v25= .agg #[v6,v10,v14,v18,v22,.int .i64 x.b.lot])∧(b23=true→b22=true∧r0=v6∧r1=v10∧r2=v14∧r3=v18∧r4=v22∧r5= .int .i64 x.b.lot)
theorem room{w W:World}{r0 r1 r2 r3 r4 r5:Value}(h:Box W w.heap.size (w.heap.size+1) r0 r1 r2 r3 r4 r5):w.heap.size+2≤W.heap.size:=h.lt.2
theorem iCopiedI(w:World)(x:Ix)(h:SrcI w x):
  Calls Tryz.prog 143 #[.agg #[.slice x.aa x.b.ac.length x.ca,.slice x.ai x.b.ic.length x.ci,.slice x.ab x.b.bs.length x.cb,.slice x.al x.b.ls.length x.cl,.slice x.ats x.b.ts.length x.ct,.int .i64 x.b.lot]] w fun e w'=>∃z:Bx,z.b=x.b∧e= .returned (.agg #[.slice (some ⟨z.ga,0,none⟩) z.b.ac.length z.ca,.slice (some ⟨z.gi,0,none⟩) z.b.ic.length z.ci,.slice (some ⟨z.gb,0,none⟩) z.b.bs.length z.cb,.slice (some ⟨z.gl,0,none⟩) z.b.ls.length z.cl,.slice (some ⟨z.gt,0,none⟩) z.b.ts.length z.ct,.int .i64 z.b.lot])∧Ow w' w.heap.size z∧Below w.heap.size w w':=by
 have H:=zh h
 clear h
 go_enter Tryz.func143,Tryz.ntmps143
 go_wp2_with fail
 refine wp_region_inv2 [[],[],[1],[0,2],[],[],[5],[4,6],[],[],[9],[8,10],[],[],[13],[12,14],[],[],[17],[16,18],[],[20],[3,7,11,15,19,21],[22]] (Inv w x) (by kernel_rfl) (by kernel_rfl) (by kernel_rfl) ?_ ?_ ?_ ?_
 ·intro listed a W hI
  obtain⟨_,_,_,_,_,_,_,_,_,_,_,_,_,_,_,_,_,_,_,_,_,_,_,_,_,_,_,_,_,_,_,_,_,_,_,_,_,_,_,_,_,_,_,_,_,_,_,_,_,_,_,_,_,rfl,_⟩:=hI
  rfl
 ·have b1:Below w.heap.size w ((w.alloc (.cells #[.slice x.aa x.b.ac.length x.ca,.slice x.ai x.b.ic.length x.ci,.slice x.ab x.b.bs.length x.cb,.slice x.al x.b.ls.length x.cl,.slice x.ats x.b.ts.length x.ct,.int .i64 x.b.lot] 44)).alloc (.cells #[.slice none 0 0,.slice none 0 0,.slice none 0 0,.slice none 0 0,.slice none 0 0,.int .i64 0] 44)):=((Below.refl w.heap.size w).alloc (Nat.le_refl _) _).alloc (by simp) _
  have c1:ClV ((w.alloc (.cells #[.slice x.aa x.b.ac.length x.ca,.slice x.ai x.b.ic.length x.ci,.slice x.ab x.b.bs.length x.cb,.slice x.al x.b.ls.length x.cl,.slice x.ats x.b.ts.length x.ct,.int .i64 x.b.lot] 44)).alloc (.cells #[.slice none 0 0,.slice none 0 0,.slice none 0 0,.slice none 0 0,.slice none 0 0,.int .i64 0] 44)) w.heap.size x:=⟨by simp,by simp,by simp,by simp,by simp,by simp⟩
  have x1:Box ((w.alloc (.cells #[.slice x.aa x.b.ac.length x.ca,.slice x.ai x.b.ic.length x.ci,.slice x.ab x.b.bs.length x.cb,.slice x.al x.b.ls.length x.cl,.slice x.ats x.b.ts.length x.ct,.int .i64 x.b.lot] 44)).alloc (.cells #[.slice none 0 0,.slice none 0 0,.slice none 0 0,.slice none 0 0,.slice none 0 0,.int .i64 0] 44)) w.heap.size (w.heap.size+1) (.slice none 0 0) (.slice none 0 0) (.slice none 0 0) (.slice none 0 0) (.slice none 0 0) (.int .i64 0):=Box.made _ _ _ _ _ _ (by simp) (by simp)
  refine⟨false,false,false,false,false,false,false,false,false,false,false,false,false,false,false,false,false,false,false,false,false,false,false,false,undef,undef,undef,undef,undef,undef,undef,undef,undef,undef,undef,undef,undef,undef,undef,undef,undef,undef,undef,undef,undef,undef,undef,.slice none 0 0,.slice none 0 0,.slice none 0 0,.slice none 0 0,.slice none 0 0,.int .i64 0,rfl,rfl,b1.drew,⟨c1.c0,c1.c1,c1.c2,c1.c3,c1.c4,c1.c5⟩,x1,Ch.zero _ _ _ _ _ _ _ _ _ _ _ _,Ch.zero _ _ _ _ _ _ _ _ _ _ _ _,Ch.zero _ _ _ _ _ _ _ _ _ _ _ _,Ch.zero _ _ _ _ _ _ _ _ _ _ _ _,Ch.zero _ _ _ _ _ _ _ _ _ _ _ _,(fun h=>by cases h),(fun h=>by cases h),(fun h=>by cases h),(fun h=>by cases h)⟩
 ·intro listed a W i hI hi hl hd
  replace hi:i<24:=hi
  obtain⟨b0,b1,b2,b3,b4,b5,b6,b7,b8,b9,b10,b11,b12,b13,b14,b15,b16,b17,b18,b19,b20,b21,b22,b23,v3,v4,v5,v6,v7,v8,v9,v10,v11,v12,v13,v14,v15,v16,v17,v18,v19,v20,v21,v22,v23,v24,v25,r0,r1,r2,r3,r4,r5,rfl,rfl,hB,hC,hR,h0,h1,h2,h3,h4,e20,e21,e22,e23⟩:=hI
  have hrm:=room hR
  have zb:w.heap.size<W.heap.size:=by omega
  rcases(show i=0∨i=1∨i=2∨i=3∨i=4∨i=5∨i=6∨i=7∨i=8∨i=9∨i=10∨i=11∨i=12∨i=13∨i=14∨i=15∨i=16∨i=17∨i=18∨i=19∨i=20∨i=21∨i=22∨i=23 by omega) with rfl|rfl|rfl|rfl|rfl|rfl|rfl|rfl|rfl|rfl|rfl|rfl|rfl|rfl|rfl|rfl|rfl|rfl|rfl|rfl|rfl|rfl|rfl|rfl
  ·refine wpOp_of rfl rfl ?_
   go_simp
   exact⟨true,_,_,_,_,_,_,_,_,_,_,_,_,_,_,_,_,_,_,_,_,_,_,_,_,_,_,_,_,_,_,_,_,_,_,_,_,_,_,_,_,_,_,_,_,_,_,r0,r1,r2,r3,r4,r5,rfl,rfl,hB.alloc (by omega) _,hC.below (one_more _ _) zb,hR.below (one_more _ _) hR.lt.2,h0.start hrm,h1.alloc _,h2.alloc _,h3.alloc _,h4.alloc _,e20,e21,e22,e23⟩
  ·refine wpOp_of rfl rfl ?_
   go_simp
   exact⟨_,true,_,_,_,_,_,_,_,_,_,_,_,_,_,_,_,_,_,_,_,_,_,_,_,_,_,_,_,_,_,_,_,_,_,_,_,_,_,_,_,_,_,_,_,_,_,r0,r1,r2,r3,r4,r5,rfl,rfl,hB,hC,hR,h0.addr,h1,h2,h3,h4,e20,e21,e22,e23⟩
  ·have q1:b1=true:=hd 1 (by simp)
   have q2:=h0.1 q1
   subst q1 q2
   have c:=hC.c0
   refine wpOp_of rfl rfl ?_
   go_simp
   exact⟨_,true,true,_,_,_,_,_,_,_,_,_,_,_,_,_,_,_,_,_,_,_,_,_,_,_,_,_,_,_,_,_,_,_,_,_,_,_,_,_,_,_,_,_,_,_,_,r0,r1,r2,r3,r4,r5,rfl,rfl,hB,hC,hR,h0.load,h1,h2,h3,h4,e20,e21,e22,e23⟩
  ·have q1:b0=true:=hd 0 (by simp)
   have q2:b2=true:=hd 2 (by simp)
   have q3:b3=false:=hl
   obtain⟨g,ev,orow⟩:=h0.2.2.1 q1 q3
   have es:=h0.2.1 q2
   subst ev es
   obtain⟨g',c',W',hrun,ow,gr,_⟩:=copyIAccount W (w.heap.size+2) g 0 orow 38 x.aa x.ca x.b.ac ((zu H).below hB).sa hrm
   have gl:=World.ownsRow.lt orow g rfl
   have n0:some w.heap.size≠some g:=fun e=>by injection e;omega
   have n1:some (w.heap.size+1)≠some g:=fun e=>by injection e;omega
   have f22:b22=true→False:=fun e=>by have:=(e22 e).1;rw[q3] at this;simp at this
   have hBk:=hB.grown gr (by omega) (fun k e=>by injection e;omega)
   have hCk:ClV W' w.heap.size x:=⟨gr.cell hC.c0 n0,gr.cell hC.c1 n0,gr.cell hC.c2 n0,gr.cell hC.c3 n0,gr.cell hC.c4 n0,gr.cell hC.c5 n0⟩
   refine wpOp_of rfl rfl ?_
   refine wpo_append (.tmp 3) (.tmp 5) 38 rfl rfl rfl hrun ?_
   exact⟨_,_,_,true,_,_,_,_,_,_,_,_,_,_,_,_,_,_,_,_,_,_,_,_,_,_,_,_,_,_,_,_,_,_,_,_,_,_,_,_,_,_,_,_,_,_,_,r0,r1,r2,r3,r4,r5,rfl,rfl,hBk,hCk,hR.kept gr n1,h0.app ow,h1.kept gr (other orow (by decide)),h2.kept gr (other orow (by decide)),h3.kept gr (other orow (by decide)),h4.kept gr (other orow (by decide)),e20,e21,fun e=>(f22 e).elim,fun e=>(f22 (e23 e).1).elim⟩
  ·refine wpOp_of rfl rfl ?_
   go_simp
   exact⟨_,_,_,_,true,_,_,_,_,_,_,_,_,_,_,_,_,_,_,_,_,_,_,_,_,_,_,_,_,_,_,_,_,_,_,_,_,_,_,_,_,_,_,_,_,_,_,r0,r1,r2,r3,r4,r5,rfl,rfl,hB.alloc (by omega) _,hC.below (one_more _ _) zb,hR.below (one_more _ _) hR.lt.2,h0.alloc _,h1.start hrm,h2.alloc _,h3.alloc _,h4.alloc _,e20,e21,e22,e23⟩
  ·refine wpOp_of rfl rfl ?_
   go_simp
   exact⟨_,_,_,_,_,true,_,_,_,_,_,_,_,_,_,_,_,_,_,_,_,_,_,_,_,_,_,_,_,_,_,_,_,_,_,_,_,_,_,_,_,_,_,_,_,_,_,r0,r1,r2,r3,r4,r5,rfl,rfl,hB,hC,hR,h0,h1.addr,h2,h3,h4,e20,e21,e22,e23⟩
  ·have q1:b5=true:=hd 5 (by simp)
   have q2:=h1.1 q1
   subst q1 q2
   have c:=hC.c1
   refine wpOp_of rfl rfl ?_
   go_simp
   exact⟨_,_,_,_,_,true,true,_,_,_,_,_,_,_,_,_,_,_,_,_,_,_,_,_,_,_,_,_,_,_,_,_,_,_,_,_,_,_,_,_,_,_,_,_,_,_,_,r0,r1,r2,r3,r4,r5,rfl,rfl,hB,hC,hR,h0,h1.load,h2,h3,h4,e20,e21,e22,e23⟩
  ·have q1:b4=true:=hd 4 (by simp)
   have q2:b6=true:=hd 6 (by simp)
   have q3:b7=false:=hl
   obtain⟨g,ev,orow⟩:=h1.2.2.1 q1 q3
   have es:=h1.2.1 q2
   subst ev es
   obtain⟨g',c',W',hrun,ow,gr,_⟩:=copyIInstr W (w.heap.size+2) g 0 orow 39 x.ai x.ci x.b.ic ((zu H).below hB).si hrm
   have gl:=World.ownsRow.lt orow g rfl
   have n0:some w.heap.size≠some g:=fun e=>by injection e;omega
   have n1:some (w.heap.size+1)≠some g:=fun e=>by injection e;omega
   have f22:b22=true→False:=fun e=>by have:=(e22 e).1;rw[q3] at this;simp at this
   have hBk:=hB.grown gr (by omega) (fun k e=>by injection e;omega)
   have hCk:ClV W' w.heap.size x:=⟨gr.cell hC.c0 n0,gr.cell hC.c1 n0,gr.cell hC.c2 n0,gr.cell hC.c3 n0,gr.cell hC.c4 n0,gr.cell hC.c5 n0⟩
   refine wpOp_of rfl rfl ?_
   refine wpo_append (.tmp 7) (.tmp 9) 39 rfl rfl rfl hrun ?_
   exact⟨_,_,_,_,_,_,_,true,_,_,_,_,_,_,_,_,_,_,_,_,_,_,_,_,_,_,_,_,_,_,_,_,_,_,_,_,_,_,_,_,_,_,_,_,_,_,_,r0,r1,r2,r3,r4,r5,rfl,rfl,hBk,hCk,hR.kept gr n1,h0.kept gr (other orow (by decide)),h1.app ow,h2.kept gr (other orow (by decide)),h3.kept gr (other orow (by decide)),h4.kept gr (other orow (by decide)),e20,e21,fun e=>(f22 e).elim,fun e=>(f22 (e23 e).1).elim⟩
  ·refine wpOp_of rfl rfl ?_
   go_simp
   exact⟨_,_,_,_,_,_,_,_,true,_,_,_,_,_,_,_,_,_,_,_,_,_,_,_,_,_,_,_,_,_,_,_,_,_,_,_,_,_,_,_,_,_,_,_,_,_,_,r0,r1,r2,r3,r4,r5,rfl,rfl,hB.alloc (by omega) _,hC.below (one_more _ _) zb,hR.below (one_more _ _) hR.lt.2,h0.alloc _,h1.alloc _,h2.start hrm,h3.alloc _,h4.alloc _,e20,e21,e22,e23⟩
  ·refine wpOp_of rfl rfl ?_
   go_simp
   exact⟨_,_,_,_,_,_,_,_,_,true,_,_,_,_,_,_,_,_,_,_,_,_,_,_,_,_,_,_,_,_,_,_,_,_,_,_,_,_,_,_,_,_,_,_,_,_,_,r0,r1,r2,r3,r4,r5,rfl,rfl,hB,hC,hR,h0,h1,h2.addr,h3,h4,e20,e21,e22,e23⟩
  ·have q1:b9=true:=hd 9 (by simp)
   have q2:=h2.1 q1
   subst q1 q2
   have c:=hC.c2
   refine wpOp_of rfl rfl ?_
   go_simp
   exact⟨_,_,_,_,_,_,_,_,_,true,true,_,_,_,_,_,_,_,_,_,_,_,_,_,_,_,_,_,_,_,_,_,_,_,_,_,_,_,_,_,_,_,_,_,_,_,_,r0,r1,r2,r3,r4,r5,rfl,rfl,hB,hC,hR,h0,h1,h2.load,h3,h4,e20,e21,e22,e23⟩
  ·have q1:b8=true:=hd 8 (by simp)
   have q2:b10=true:=hd 10 (by simp)
   have q3:b11=false:=hl
   obtain⟨g,ev,orow⟩:=h2.2.2.1 q1 q3
   have es:=h2.2.1 q2
   subst ev es
   obtain⟨g',c',W',hrun,ow,gr,_⟩:=copyIBal W (w.heap.size+2) g 0 orow 40 x.ab x.cb x.b.bs ((zu H).below hB).sb hrm
   have gl:=World.ownsRow.lt orow g rfl
   have n0:some w.heap.size≠some g:=fun e=>by injection e;omega
   have n1:some (w.heap.size+1)≠some g:=fun e=>by injection e;omega
   have f22:b22=true→False:=fun e=>by have:=(e22 e).1;rw[q3] at this;simp at this
   have hBk:=hB.grown gr (by omega) (fun k e=>by injection e;omega)
   have hCk:ClV W' w.heap.size x:=⟨gr.cell hC.c0 n0,gr.cell hC.c1 n0,gr.cell hC.c2 n0,gr.cell hC.c3 n0,gr.cell hC.c4 n0,gr.cell hC.c5 n0⟩
   refine wpOp_of rfl rfl ?_
   refine wpo_append (.tmp 11) (.tmp 13) 40 rfl rfl rfl hrun ?_
   exact⟨_,_,_,_,_,_,_,_,_,_,_,true,_,_,_,_,_,_,_,_,_,_,_,_,_,_,_,_,_,_,_,_,_,_,_,_,_,_,_,_,_,_,_,_,_,_,_,r0,r1,r2,r3,r4,r5,rfl,rfl,hBk,hCk,hR.kept gr n1,h0.kept gr (other orow (by decide)),h1.kept gr (other orow (by decide)),h2.app ow,h3.kept gr (other orow (by decide)),h4.kept gr (other orow (by decide)),e20,e21,fun e=>(f22 e).elim,fun e=>(f22 (e23 e).1).elim⟩
  ·refine wpOp_of rfl rfl ?_
   go_simp
   exact⟨_,_,_,_,_,_,_,_,_,_,_,_,true,_,_,_,_,_,_,_,_,_,_,_,_,_,_,_,_,_,_,_,_,_,_,_,_,_,_,_,_,_,_,_,_,_,_,r0,r1,r2,r3,r4,r5,rfl,rfl,hB.alloc (by omega) _,hC.below (one_more _ _) zb,hR.below (one_more _ _) hR.lt.2,h0.alloc _,h1.alloc _,h2.alloc _,h3.start hrm,h4.alloc _,e20,e21,e22,e23⟩
  ·refine wpOp_of rfl rfl ?_
   go_simp
   exact⟨_,_,_,_,_,_,_,_,_,_,_,_,_,true,_,_,_,_,_,_,_,_,_,_,_,_,_,_,_,_,_,_,_,_,_,_,_,_,_,_,_,_,_,_,_,_,_,r0,r1,r2,r3,r4,r5,rfl,rfl,hB,hC,hR,h0,h1,h2,h3.addr,h4,e20,e21,e22,e23⟩
  ·have q1:b13=true:=hd 13 (by simp)
   have q2:=h3.1 q1
   subst q1 q2
   have c:=hC.c3
   refine wpOp_of rfl rfl ?_
   go_simp
   exact⟨_,_,_,_,_,_,_,_,_,_,_,_,_,true,true,_,_,_,_,_,_,_,_,_,_,_,_,_,_,_,_,_,_,_,_,_,_,_,_,_,_,_,_,_,_,_,_,r0,r1,r2,r3,r4,r5,rfl,rfl,hB,hC,hR,h0,h1,h2,h3.load,h4,e20,e21,e22,e23⟩
  ·have q1:b12=true:=hd 12 (by simp)
   have q2:b14=true:=hd 14 (by simp)
   have q3:b15=false:=hl
   obtain⟨g,ev,orow⟩:=h3.2.2.1 q1 q3
   have es:=h3.2.1 q2
   subst ev es
   obtain⟨g',c',W',hrun,ow,gr,_⟩:=copyILot W (w.heap.size+2) g 0 orow 41 x.al x.cl x.b.ls ((zu H).below hB).sl hrm
   have gl:=World.ownsRow.lt orow g rfl
   have n0:some w.heap.size≠some g:=fun e=>by injection e;omega
   have n1:some (w.heap.size+1)≠some g:=fun e=>by injection e;omega
   have f22:b22=true→False:=fun e=>by have:=(e22 e).1;rw[q3] at this;simp at this
   have hBk:=hB.grown gr (by omega) (fun k e=>by injection e;omega)
   have hCk:ClV W' w.heap.size x:=⟨gr.cell hC.c0 n0,gr.cell hC.c1 n0,gr.cell hC.c2 n0,gr.cell hC.c3 n0,gr.cell hC.c4 n0,gr.cell hC.c5 n0⟩
   refine wpOp_of rfl rfl ?_
   refine wpo_append (.tmp 15) (.tmp 17) 41 rfl rfl rfl hrun ?_
   exact⟨_,_,_,_,_,_,_,_,_,_,_,_,_,_,_,true,_,_,_,_,_,_,_,_,_,_,_,_,_,_,_,_,_,_,_,_,_,_,_,_,_,_,_,_,_,_,_,r0,r1,r2,r3,r4,r5,rfl,rfl,hBk,hCk,hR.kept gr n1,h0.kept gr (other orow (by decide)),h1.kept gr (other orow (by decide)),h2.kept gr (other orow (by decide)),h3.app ow,h4.kept gr (other orow (by decide)),e20,e21,fun e=>(f22 e).elim,fun e=>(f22 (e23 e).1).elim⟩
  ·refine wpOp_of rfl rfl ?_
   go_simp
   exact⟨_,_,_,_,_,_,_,_,_,_,_,_,_,_,_,_,true,_,_,_,_,_,_,_,_,_,_,_,_,_,_,_,_,_,_,_,_,_,_,_,_,_,_,_,_,_,_,r0,r1,r2,r3,r4,r5,rfl,rfl,hB.alloc (by omega) _,hC.below (one_more _ _) zb,hR.below (one_more _ _) hR.lt.2,h0.alloc _,h1.alloc _,h2.alloc _,h3.alloc _,h4.start hrm,e20,e21,e22,e23⟩
  ·refine wpOp_of rfl rfl ?_
   go_simp
   exact⟨_,_,_,_,_,_,_,_,_,_,_,_,_,_,_,_,_,true,_,_,_,_,_,_,_,_,_,_,_,_,_,_,_,_,_,_,_,_,_,_,_,_,_,_,_,_,_,r0,r1,r2,r3,r4,r5,rfl,rfl,hB,hC,hR,h0,h1,h2,h3,h4.addr,e20,e21,e22,e23⟩
  ·have q1:b17=true:=hd 17 (by simp)
   have q2:=h4.1 q1
   subst q1 q2
   have c:=hC.c4
   refine wpOp_of rfl rfl ?_
   go_simp
   exact⟨_,_,_,_,_,_,_,_,_,_,_,_,_,_,_,_,_,true,true,_,_,_,_,_,_,_,_,_,_,_,_,_,_,_,_,_,_,_,_,_,_,_,_,_,_,_,_,r0,r1,r2,r3,r4,r5,rfl,rfl,hB,hC,hR,h0,h1,h2,h3,h4.load,e20,e21,e22,e23⟩
  ·have q1:b16=true:=hd 16 (by simp)
   have q2:b18=true:=hd 18 (by simp)
   have q3:b19=false:=hl
   obtain⟨g,ev,orow⟩:=h4.2.2.1 q1 q3
   have es:=h4.2.1 q2
   subst ev es
   obtain⟨g',c',W',hrun,ow,gr,_⟩:=copyITrade W (w.heap.size+2) g 0 orow 42 x.ats x.ct x.b.ts ((zu H).below hB).st hrm
   have gl:=World.ownsRow.lt orow g rfl
   have n0:some w.heap.size≠some g:=fun e=>by injection e;omega
   have n1:some (w.heap.size+1)≠some g:=fun e=>by injection e;omega
   have f22:b22=true→False:=fun e=>by have:=(e22 e).1;rw[q3] at this;simp at this
   have hBk:=hB.grown gr (by omega) (fun k e=>by injection e;omega)
   have hCk:ClV W' w.heap.size x:=⟨gr.cell hC.c0 n0,gr.cell hC.c1 n0,gr.cell hC.c2 n0,gr.cell hC.c3 n0,gr.cell hC.c4 n0,gr.cell hC.c5 n0⟩
   refine wpOp_of rfl rfl ?_
   refine wpo_append (.tmp 19) (.tmp 21) 42 rfl rfl rfl hrun ?_
   exact⟨_,_,_,_,_,_,_,_,_,_,_,_,_,_,_,_,_,_,_,true,_,_,_,_,_,_,_,_,_,_,_,_,_,_,_,_,_,_,_,_,_,_,_,_,_,_,_,r0,r1,r2,r3,r4,r5,rfl,rfl,hBk,hCk,hR.kept gr n1,h0.kept gr (other orow (by decide)),h1.kept gr (other orow (by decide)),h2.kept gr (other orow (by decide)),h3.kept gr (other orow (by decide)),h4.app ow,e20,e21,fun e=>(f22 e).elim,fun e=>(f22 (e23 e).1).elim⟩
  ·refine wpOp_of rfl rfl ?_
   go_simp
   exact⟨_,_,_,_,_,_,_,_,_,_,_,_,_,_,_,_,_,_,_,_,true,_,_,_,_,_,_,_,_,_,_,_,_,_,_,_,_,_,_,_,_,_,_,_,_,_,_,r0,r1,r2,r3,r4,r5,rfl,rfl,hB,hC,hR,h0,h1,h2,h3,h4,fun _=>rfl,e21,e22,e23⟩
  ·have q1:b20=true:=hd 20 (by simp)
   have q2:=e20 q1
   subst q1 q2
   have c:=hC.c5
   refine wpOp_of rfl rfl ?_
   go_simp
   exact⟨_,_,_,_,_,_,_,_,_,_,_,_,_,_,_,_,_,_,_,_,true,true,_,_,_,_,_,_,_,_,_,_,_,_,_,_,_,_,_,_,_,_,_,_,_,_,_,r0,r1,r2,r3,r4,r5,rfl,rfl,hB,hC,hR,h0,h1,h2,h3,h4,e20,fun _=>rfl,e22,e23⟩
  ·have q3:b3=true:=hd 3 (by simp)
   have q7:b7=true:=hd 7 (by simp)
   have q11:b11=true:=hd 11 (by simp)
   have q15:b15=true:=hd 15 (by simp)
   have q19:b19=true:=hd 19 (by simp)
   have q21:b21=true:=hd 21 (by simp)
   have q22:b22=false:=hl
   have ev:=e21 q21
   subst ev
   obtain⟨g0,c0,z0,_⟩:=h0.2.2.2 q3
   obtain⟨g1,c1,z1,_⟩:=h1.2.2.2 q7
   obtain⟨g2,c2,z2,_⟩:=h2.2.2.2 q11
   obtain⟨g3,c3,z3,_⟩:=h3.2.2.2 q15
   obtain⟨g4,c4,z4,_⟩:=h4.2.2.2 q19
   subst z0 z1 z2 z3 z4
   have f23:b23=true→False:=fun e=>by have:=(e23 e).1;rw[q22] at this;cases this
   refine wpOp_of rfl rfl ?_
   have Q3:=zh q3
   have Q7:=zh q7
   have Q11:=zh q11
   have Q15:=zh q15
   have Q19:=zh q19
   clear q3 q7 q11 q15 q19 q21 q22 hl hd
   go_simp
   exact⟨_,_,_,_,_,_,_,_,_,_,_,_,_,_,_,_,_,_,_,_,_,_,true,_,_,_,_,_,_,_,_,_,_,_,_,_,_,_,_,_,_,_,_,_,_,_,_,r0,r1,r2,r3,r4,r5,rfl,rfl,hB,hC,hR,h0,h1,h2,h3,h4,e20,fun _=>rfl,fun _=>⟨⟨zu Q3,zu Q7,zu Q11,zu Q15,zu Q19⟩,rfl⟩,fun e=>(f23 e).elim⟩
  ·have q22:b22=true:=hd 22 (by simp)
   obtain⟨Q,ev⟩:=e22 q22
   subst ev
   obtain⟨g0,c0,z0,_⟩:=h0.2.2.2 Q.1
   obtain⟨g1,c1,z1,_⟩:=h1.2.2.2 Q.2.1
   obtain⟨g2,c2,z2,_⟩:=h2.2.2.2 Q.2.2.1
   obtain⟨g3,c3,z3,_⟩:=h3.2.2.2 Q.2.2.2.1
   obtain⟨g4,c4,z4,_⟩:=h4.2.2.2 Q.2.2.2.2
   subst z0 z1 z2 z3 z4
   have Q22:=zh q22
   have QQ:=zh Q
   obtain⟨s0,y0⟩:=hR.set0 (.slice (some ⟨g0,0,none⟩) x.b.ac.length c0)
   obtain⟨s1,y1⟩:=s0.set1 (.slice (some ⟨g1,0,none⟩) x.b.ic.length c1)
   obtain⟨s2,y2⟩:=s1.set2 (.slice (some ⟨g2,0,none⟩) x.b.bs.length c2)
   obtain⟨s3,y3⟩:=s2.set3 (.slice (some ⟨g3,0,none⟩) x.b.ls.length c3)
   obtain⟨s4,y4⟩:=s3.set4 (.slice (some ⟨g4,0,none⟩) x.b.ts.length c4)
   obtain⟨s5,y5⟩:=s4.set5 (.int .i64 x.b.lot)
   have gg:=Pairs.grown_trans (Pairs.grown_trans (Pairs.grown_trans (Pairs.grown_trans (Pairs.grown_trans y0 y1) y2) y3) y4) y5
   obtain⟨k0,k1,k2,k3,k4,k5,f0,f1,f2,f3,f4,f5⟩:=Box.all hR
   have n0:some w.heap.size≠some (w.heap.size+1):=fun e=>by injection e;omega
   have hBk:=hB.grown gg (by omega) (fun k e=>by injection e;omega)
   have hCk:ClV _ w.heap.size x:=⟨gg.cell hC.c0 n0,gg.cell hC.c1 n0,gg.cell hC.c2 n0,gg.cell hC.c3 n0,gg.cell hC.c4 n0,gg.cell hC.c5 n0⟩
   have S5:=zh s5
   have BK:=zh hBk
   have CK:=zh hCk
   have GG:=zh gg
   have OT:=zh (show ∀(e':TypeId) (size':Nat),44≠e'→∀(m c:Nat) (ys:List Value),¬W.ownsRow (w.heap.size+2) e' size' (.slice (some ⟨w.heap.size+1,0,none⟩) m c) m ys from fun e' size' ne=>other hR ne)
   refine wpOp_of rfl rfl ?_
   clear q22 Q s0 s1 s2 s3 s4 s5 y0 y1 y2 y3 y4 y5 gg hBk hCk hl hd
   go_simp
   exact⟨b0,b1,b2,b3,b4,b5,b6,b7,b8,b9,b10,b11,b12,b13,b14,b15,b16,b17,b18,b19,b20,b21,b22,true,v3,v4,v5,_,v7,v8,v9,_,v11,v12,v13,_,v15,v16,v17,_,v19,v20,v21,_,v23,v24,_,_,_,_,_,_,.int .i64 x.b.lot,rfl,rfl,zu BK,zu CK,zu S5,h0.kept (zu GG) ((zu OT) _ _ (by decide)),h1.kept (zu GG) ((zu OT) _ _ (by decide)),h2.kept (zu GG) ((zu OT) _ _ (by decide)),h3.kept (zu GG) ((zu OT) _ _ (by decide)),h4.kept (zu GG) ((zu OT) _ _ (by decide)),e20,e21,fun _=>⟨zu QQ,rfl⟩,fun _=>⟨zu Q22,rfl,rfl,rfl,rfl,rfl,rfl⟩⟩
 ·intro listed a W hI hall
  obtain⟨b0,b1,b2,b3,b4,b5,b6,b7,b8,b9,b10,b11,b12,b13,b14,b15,b16,b17,b18,b19,b20,b21,b22,b23,v3,v4,v5,v6,v7,v8,v9,v10,v11,v12,v13,v14,v15,v16,v17,v18,v19,v20,v21,v22,v23,v24,v25,r0,r1,r2,r3,r4,r5,rfl,rfl,hB,hC,hR,h0,h1,h2,h3,h4,e20,e21,e22,e23⟩:=hI
  have q23:b23=true:=hall 23 (by simp)
  obtain⟨q22,rfl,rfl,rfl,rfl,rfl,rfl⟩:=e23 q23
  obtain⟨⟨q3,q7,q11,q15,q19⟩,rfl⟩:=e22 q22
  obtain⟨g0,c0,rfl,o0⟩:=h0.2.2.2 q3
  obtain⟨g1,c1,rfl,o1⟩:=h1.2.2.2 q7
  obtain⟨g2,c2,rfl,o2⟩:=h2.2.2.2 q11
  obtain⟨g3,c3,rfl,o3⟩:=h3.2.2.2 q15
  obtain⟨g4,c4,rfl,o4⟩:=h4.2.2.2 q19
  have k0:=hR.c0
  have k1:=hR.c1
  have k2:=hR.c2
  have k3:=hR.c3
  have k4:=hR.c4
  have k5:=hR.c5
  have OO:=zh (show Ow W w.heap.size ⟨g0,c0,g1,c1,g2,c2,g3,c3,g4,c4,x.b⟩ from Ow.rebase (base:=w.heap.size+2) ⟨o0,o1,o2,o3,o4⟩ (by omega))
  have BB:=zh hB
  clear h0 h1 h2 h3 h4 e20 e21 e22 e23 q3 q7 q11 q15 q19 q22 q23 hall o0 o1 o2 o3 o4 hB hC hR
  go_wp2
  refine bodyPost_ret (v:= .agg #[.slice (some ⟨g0,0,none⟩) x.b.ac.length c0,.slice (some ⟨g1,0,none⟩) x.b.ic.length c1,.slice (some ⟨g2,0,none⟩) x.b.bs.length c2,.slice (some ⟨g3,0,none⟩) x.b.ls.length c3,.slice (some ⟨g4,0,none⟩) x.b.ts.length c4,.int .i64 x.b.lot]) (by simp[results,Tryz.results143,go_sem,k0,k1,k2,k3,k4,k5]) rfl ⟨⟨g0,c0,g1,c1,g2,c2,g3,c3,g4,c4,x.b⟩,rfl,rfl,zu OO,zu BB⟩
end ICopiedI17
end Go.Proofs.YtppkkmaoaiopaaaGreat
