/- The bytes that came in, as the drawing functions want them. -/
import Derived.Test.YtnkbkaeafkdpiaaDraw
import Derived.Test.YtnkbkaeafkdpiaaLaw11
namespace Go.Proofs.Ytnkbkaeafkdpiaa.Code12
open Go.ChangeShapes Go.WideShapes Go.ChangeAt Go.RowKit
open Draw (CodeAt)

theorem codeAt {w : World} {a : Option Addr} {len cap : Nat} {zs : List Int} (h : Ints.IsRow .u8 w a len cap zs) : CodeAt w a len := by
  obtain ⟨hl, hr, hi, _⟩ := Law11.row_bytes h
  rcases hr with h0 | ⟨b, off, rfl, hb, hc⟩
  · exact .inl (by omega)
  · exact .inr ⟨b, off, zs.take len, rfl, hb, fun i hi' => ⟨hc i (by omega), hi i (by omega)⟩⟩

end Go.Proofs.Ytnkbkaeafkdpiaa.Code12
