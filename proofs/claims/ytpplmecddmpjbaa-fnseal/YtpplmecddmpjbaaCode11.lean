/- What the drawn laws of chapter 11 ask of their own helpers: the bytes that came in, at, sameInts. -/
import Derived.Test.YtpplmecddmpjbaaDraw11
import Derived.Test.YtpplmecddmpjbaaVOI
import Derived.Test.YtpplmecddmpjbaaVOB
import Derived.Test.YtpplmecddmpjbaaLaw11
namespace Go.Proofs.Ytpplmecddmpjbaa.Code11
open Go.ChangeShapes Go.WideShapes Go.ChangeAt Go.RowKit SBytes SPut11 SPuts11
open Draw (CodeAt)
set_option linter.unusedVariables false
set_option linter.unusedSimpArgs false

/-- The bytes that came in, as the drawing functions want them. -/
theorem codeAt {w : World} {a : Option Addr} {len cap : Nat} {zs : List Int} (h : Ints.IsRow .u8 w a len cap zs) : CodeAt w a len := by
  obtain ⟨hl, hr, hi, _⟩ := Law11.row_bytes h
  rcases hr with h0 | ⟨b, off, rfl, hb, hc⟩
  · exact .inl (by omega)
  · exact .inr ⟨b, off, zs.take len, rfl, hb, fun i hi' => ⟨hc i (by omega), hi i (by omega)⟩⟩

set_option maxRecDepth 100000 in
theorem atC (w : World) (a : Option Addr) (len cap : Nat) (i : Nat) (hl : len ≤ 1048576) (hi : i ≤ 100) (hcode : CodeAt w a len) :
    Calls Try.prog 10 #[.slice a len cap, .int .i64 i] w fun e w' => ∃ x : Int, 0 ≤ x ∧ x ≤ 255 ∧ e = .returned (.int .i64 x) ∧ w' = w := by
  by_cases h : i < len
  · rcases hcode with h0 | ⟨b, off, zs, rfl, hb, hc⟩
    · omega
    obtain ⟨c0, c1, c2⟩ := hc i h
    clear hc
    generalize zs.getD i 0 = z at *
    have e1 : wrap64 z = z := by rw [wrap64]; omega
    have Z := hide (And.intro c1 c2)
    have h1 : (i : Int) < len := by omega
    clear c1 c2
    go_enter Try.func10, Try.ntmps10
    go_wp2
    go_ret
    exact ⟨z, (unhide Z).1, (unhide Z).2, by simp [e1], rfl⟩
  · have h1 : ¬ (i : Int) < len := by omega
    have e1 : wrap64 ((i : Int) * 7) = i * 7 := by rw [wrap64]; omega
    have e2 : wrap64 ((i : Int) * 7 + len) = i * 7 + len := by rw [wrap64]; omega
    have e3 : ((i : Int) * 7 + len).tmod 256 = ((i : Int) * 7 + len) % 256 := Int.tmod_eq_emod_of_nonneg (by omega)
    have e4 : wrap64 (((i : Int) * 7 + len) % 256) = ((i : Int) * 7 + len) % 256 := by rw [wrap64]; omega
    have E := hide (And.intro e1 (And.intro e2 (And.intro e3 e4)))
    clear e1 e2 e3 e4
    go_enter Try.func10, Try.ntmps10
    go_wp2
    go_ret
    obtain ⟨e1, e2, e3, e4⟩ := unhide E
    exact ⟨((i : Int) * 7 + len) % 256, by omega, by omega, by simp [e1, e2, e3, e4], rfl⟩

set_option maxRecDepth 100000 in
theorem same (w : World) (g1 g2 n c1 c2 : Nat) (xs : List Int) (hl : xs.length = n) (h20 : n ≤ 1048576) (h1 : Ints.At w g1 xs) (h2 : Ints.At w g2 xs) :
    Calls Try.prog 11 #[.slice (some ⟨g1, 0, none⟩) n c1, .slice (some ⟨g2, 0, none⟩) n c2] w fun e w' => e = .returned (.bool true) ∧ Below w.heap.size w w' := by
  go_enter Try.func11, Try.ntmps11
  go_wp2
  go_loopw [5] (fun i wr => ∃ (k : Nat), k ≤ n ∧ i = .int .i64 k ∧ Ints.At wr g1 xs ∧ Ints.At wr g2 xs ∧ Below w.heap.size w wr) (fun i _ => n - (intOf i).toNat)
  case atStart => exact ⟨0, by omega, rfl, h1, h2, Below.refl _ _⟩
  case round =>
    clear h1 h2
    obtain ⟨k, hk, rfl, h1, h2, hb⟩ := hrel
    by_cases t : k < n
    · have e1 := h1 k (by omega)
      have e2 := h2 k (by omega)
      have H1 := hide h1
      have H2 := hide h2
      have HB := hide hb
      clear h1 h2 hb
      generalize xs.getD k 0 = z at *
      go_wp2
      go_region
      go_wp2
      go_roundw
      case rel => exact ⟨k + 1, by omega, by go_num, unhide H1, unhide H2, (unhide HB).drew⟩
      case measure => simp [intOf]; omega
    · have HB := hide hb
      clear h1 h2 hb
      go_wp2
      go_ret
      exact ⟨rfl, unhide HB⟩

end Go.Proofs.Ytpplmecddmpjbaa.Code11
