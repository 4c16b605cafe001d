/- Words for what a walk carries. -/
import Derived.Test.YtlbdfaahcmlddaaBks
namespace Go.Proofs.Ytlbdfaahcmlddaa.BMem
open Go.ChangeShapes Go.WideShapes Go.ChangeAt Go.RowKit
theorem hide {p : Prop} (h : p) : Hid p := h
theorem unhide {p : Prop} (h : Hid p) : p := h
theorem next {a b c : World} (h : Below a.heap.size a b) (k : Below b.heap.size b c) : Below a.heap.size a c := h.trans (k.mono h.size)
end Go.Proofs.Ytlbdfaahcmlddaa.BMem
