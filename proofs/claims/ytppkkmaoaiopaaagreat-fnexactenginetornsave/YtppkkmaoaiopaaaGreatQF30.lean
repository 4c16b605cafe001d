/- Lemmas. -/
import Derived.Test.YtppkkmaoaiopaaaGreatQF5
import Derived.Handy
open Go.ChangeShapes Go.WideShapes Go.ChangeAt Go.RowKit
set_option linter.unusedVariables false
set_option linter.unusedSimpArgs false
set_option maxRecDepth 100000
set_option maxHeartbeats 32000000
namespace Go.Proofs.YtppkkmaoaiopaaaGreat
namespace ISum11
open SBytes SPut11
theorem chkB_in(xs:List Int):0≤chkB xs∧chkB xs≤4294967295:=by
 have:=chk_in xs xs.length
 unfold chkB
 omega
def laid(n:Int)(k:Nat):Array Value:= #[.int .u8 (if 0<k then n%256 else 0),.int .u8 (if 1<k then n/256%256 else 0),.int .u8 (if 2<k then n/65536%256 else 0),.int .u8 (if 3<k then n/16777216%256 else 0)]
theorem iSum(w:World)(gl o cl:Nat)(xs:List Int)(h20:xs.length≤1048576)(hg:gl<w.heap.size)(hr:ICheck11.AtBO w gl o xs):
  Calls Tryz.prog 169 #[.slice (some ⟨gl,o,none⟩) xs.length cl] w fun e w'=>e= .returned (.agg #[.int .u8 (chkB xs%256),.int .u8 (chkB xs/256%256),.int .u8 (chkB xs/65536%256),.int .u8 (chkB xs/16777216%256)])∧Below w.heap.size w w':=by
 have CK:=zh (fun u h=>ICheck11.iCheckO u gl o cl xs h20 h)
 have R:=zh hr
 have CI:=zh (show 0≤65536*(chk xs xs.length).2+(chk xs xs.length).1∧65536*(chk xs xs.length).2+(chk xs xs.length).1≤4294967295 from chkB_in xs)
 have E:=zh (show chkB xs=65536*(chk xs xs.length).2+(chk xs xs.length).1 from rfl)
 rw[zu E]
 clear hr E
 generalize 65536*(chk xs xs.length).2+(chk xs xs.length).1=n at *
 obtain⟨n0,n1⟩:=zu CI
 go_enter Tryz.func169,Tryz.ntmps169
 go_wp2_with fail
 refine((zu CK) _ ((zu R).below (one_more _ _) hg)).mono ?_
 rintro e u ⟨rfl,rfl⟩
 go_wp2
 go_loopw [5,9] (fun _ i wr=>∃k:Nat,k≤4∧i= .int .i64 k∧wr=(w.alloc (.cells #[.int .u8 0,.int .u8 0,.int .u8 0,.int .u8 0] 200)).alloc (.cells (laid n k) 200)) (fun _ i _=>4-(intOf i).toNat)
 case atStart=>exact⟨0,by omega,rfl,rfl⟩
 case round=>
  obtain⟨k,hk,rfl,rfl⟩:=hrel
  have:k=0∨k=1∨k=2∨k=3∨k=4:=by omega
  rcases this with rfl|rfl|rfl|rfl|rfl
  ·simp only[laid]
   go_wp2
   go_roundw
   case rel=>exact⟨1,by omega,rfl,by first|rfl|simp⟩
   case measure=>simp[intOf]
  ·simp only[laid]
   go_wp2
   go_roundw
   case rel=>exact⟨2,by omega,rfl,by first|rfl|simp⟩
   case measure=>simp[intOf]
  ·simp only[laid]
   go_wp2
   go_roundw
   case rel=>exact⟨3,by omega,rfl,by first|rfl|simp⟩
   case measure=>simp[intOf]
  ·simp only[laid]
   go_wp2
   go_roundw
   case rel=>exact⟨4,by omega,rfl,by
    have e:n/16777216%256=n/16777216:=by omega
    simp[e]⟩
   case measure=>simp[intOf]
  ·simp only[laid]
   go_wp2
   go_returns
   exact⟨rfl,(one_more _ _).trans ((Below.refl _ _).alloc (by simp) _)⟩
end ISum11
end Go.Proofs.YtppkkmaoaiopaaaGreat
