/- Texts of one proof, one behind the other: Errs. -/
import Derived.Test.YtagmnociflkhcaaGreatDoorRows
import Derived.Test.YtagmnociflkhcaaGreatDoorCards
import Derived.Test.YtagmnociflkhcaaGreatDoorTie
import Derived.Test.YtagmnociflkhcaaGreatDoorQL0
import Derived.Test.YtagmnociflkhcaaGreatDoorQL3
import Derived.WalkKit
import Derived.LaidEql
import Derived.Stop.Asserts
import Derived.RowKitTokens
set_option linter.unusedVariables false
set_option linter.unusedSimpArgs false
open Go.ChangeShapes Go.WideShapes Go.ChangeAt Go.RowKit
set_option maxRecDepth 100000
set_option maxHeartbeats 32000000
namespace Go.Proofs.YtagmnociflkhcaaGreatDoor
namespace Errs
open Go.Extern.Stop Go.Stop Go.Extern
open Triples (zh zu)
structure Errs(w:World)(n N:Nat)(a:Nat→Addr):Prop where
 v:∀k,k<n→w.cell? ⟨k,0,none⟩=some (.iface 201 (.pointer (some (a k))))
 lt:∀k,k<n→k<N∧(a k).block<N
 ne:∀j k,j<n→k<n→j≠k→a j≠a k
 row:∀k,k<n→∃c t,w.heap[(a k).block]?=some (.cells c t (0,0))
theorem Errs.below{w w':World}{n N M:Nat}{a:Nat→Addr}(h:Errs w n N a)(b:Below M w w')(hM:N≤M):Errs w' n N a:=
 ⟨fun k hk=>(b.cell (p:=⟨k,0,none⟩) (Nat.lt_of_lt_of_le (h.lt k hk).1 hM)).trans (h.v k hk),h.lt,h.ne,fun k hk=>by
  obtain⟨c,t,e⟩:=h.row k hk
  exact⟨c,t,(b.block _ (Nat.lt_of_lt_of_le (h.lt k hk).2 hM)).trans e⟩⟩
theorem Errs.drew{w:World}{n N:Nat}{a:Nat→Addr}(h:Errs w n N a):Errs w.drew n N a:=⟨h.v,h.lt,h.ne,h.row⟩
theorem Errs.grown{w w':World}{n N g:Nat}{a:Nat→Addr}(h:Errs w n N a)(b:w.grownBy w' (some g))(hg:N≤g):Errs w' n N a:=
 ⟨fun k hk=>b.cell (h.v k hk) (fun e=>by injection e with e;have:=(h.lt k hk).1;simp at e;omega),h.lt,h.ne,fun k hk=>by
  obtain⟨c,t,e⟩:=h.row k hk
  exact⟨c,t,(b.block _ (by have:=Array.getElem?_eq_some_iff.1 e;obtain⟨q,_⟩:=this;exact q) (fun e=>by injection e with e;have:=(h.lt k hk).2;omega)).trans e⟩⟩
def IsRef(a:Nat→Addr)(c:Int)(v:Value):Prop:=
 (c=0∧v= .nilIface)∨(c=3∧v= .iface 201 (.pointer (some (a 1))))∨(c=6∧v= .iface 201 (.pointer (some (a 2))))∨(c=5∧v= .iface 201 (.pointer (some (a 4))))∨(c=7∧v= .iface 201 (.pointer (some (a 0))))∨(c=8∧v= .iface 201 (.pointer (some (a 3))))
def plc(c:Int):Nat:=if c=3 then 1 else if c=6 then 2 else if c=5 then 4 else if c=7 then 0 else 3
theorem IsRef.at{a:Nat→Addr}{c:Int}{v:Value}(h:IsRef a c v):(v= .nilIface∧c=0)∨(plc c<5∧v= .iface 201 (.pointer (some (a (plc c))))∧(c=3∨c=6∨c=5∨c=7∨c=8)):=by
 rcases h with⟨rfl,rfl⟩|⟨rfl,rfl⟩|⟨rfl,rfl⟩|⟨rfl,rfl⟩|⟨rfl,rfl⟩|⟨rfl,rfl⟩
 ·exact .inl ⟨rfl,rfl⟩
 ·exact .inr ⟨by decide,rfl,by omega⟩
 ·exact .inr ⟨by decide,rfl,by omega⟩
 ·exact .inr ⟨by decide,rfl,by omega⟩
 ·exact .inr ⟨by decide,rfl,by omega⟩
 ·exact .inr ⟨by decide,rfl,by omega⟩
end Errs
end Go.Proofs.YtagmnociflkhcaaGreatDoor
