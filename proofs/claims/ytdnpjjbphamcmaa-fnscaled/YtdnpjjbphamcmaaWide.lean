/- Contracts of the program's wide numbers: the product of two amounts in two words, the long division of two words, and what of it is an amount. Conditions: the arguments lie within the bounds that each contract names. -/
import Derived.Test.YtdnpjjbphamcmaaRows
import Derived.Test.YtdnpjjbphamcmaaPlain
import Derived.WalkKit
import Derived.ProofKit
import Derived.OpenShut
import Derived.Below
namespace Go.Proofs.Ytdnpjjbphamcmaa.Wide
open Go.ChangeShapes Go.WideShapes Go.ChangeAt Go.RowKit Plain
set_option linter.unusedVariables false

theorem hide {p : Prop} (h : p) : Hid p := h
theorem unhide {p : Prop} (h : Hid p) : p := h

/-- The world has at most new blocks, and the tape is the one that it was. -/
def Gr (w w' : World) : Prop := Grown w w' ∧ w'.tape = w.tape

theorem Gr.refl (w : World) : Gr w w := ⟨Grown.refl w, rfl⟩
theorem Gr.drew {a w : World} (h : Gr a w) : Gr a w.drew := ⟨Grown.drew h.1, h.2⟩
theorem Gr.alloc {a w : World} (h : Gr a w) (c : Array Value) (t : TypeId) : Gr a (w.alloc (.cells c t)) := ⟨Grown.alloc h.1 c t, h.2⟩
theorem Gr.trans {a b c : World} (h : Gr a b) (k : Gr b c) : Gr a c := by
  obtain ⟨⟨h1, h2, h3⟩, h4⟩ := h
  obtain ⟨⟨k1, k2, k3⟩, k4⟩ := k
  exact ⟨⟨World.keptBut_trans h1 k1, fun x => (k2 x).trans (h2 x), Nat.le_trans h3 k3⟩, k4.trans h4⟩

/-- No block that was there has turned. -/
theorem Gr.below {w w' : World} (h : Gr w w') : Below w.heap.size w w' := by
  obtain ⟨⟨⟨h1, h2, h3⟩, h4, h5⟩, h6⟩ := h
  refine ⟨h1, h6, h2, h5, fun k hk => ?_⟩
  have m := h3 k hk
  revert m
  generalize w.heap[k]? = x
  generalize w'.heap[k]? = y
  intro m
  split at m
  · obtain ⟨rfl, rfl, hs, hj⟩ := m
    exact congrArg (fun z => some (Obj.cells z _ _)) (Array.ext_getElem? (fun j => hj j (by simp)))
  · rcases m with m | ⟨rfl, rfl⟩
    · exact m.elim
    · rfl
  · exact m

set_option maxRecDepth 100000 in
theorem product (a b H L : Int) (w : World) (ha : 0 ≤ a) (hb : 0 ≤ b) (ha' : a ≤ 1000000000000000) (hb' : b ≤ 1000000000000000)
    (hH : Hid (H = a * b / 18446744073709551616)) (hL : Hid (L = a * b % 18446744073709551616)) :
    Calls Try.prog 93 #[.int .u64 a, .int .u64 b] w fun e w' => e = .returned (.agg #[.int .u64 H, .int .u64 L]) ∧ Gr w w' := by
  have W := hide (words a b ha hb ha' hb')
  go_enter Try.func93, Try.ntmps93
  go_wp2
  obtain ⟨e1, e2, e3, e4, e5, e6, e7, e8, e9⟩ := unhide W
  rw [e1, e2, e3, e4, e5, e6, e7, e8, e9, ← unhide hH, ← unhide hL]
  refine bodyPost_ret (v := .agg #[.int .u64 H, .int .u64 L]) (by simp [results, Try.results93, go_sem]) rfl ⟨rfl, ?_⟩
  repeat (first | exact Gr.refl _ | apply Gr.drew | apply Gr.alloc)

set_option maxRecDepth 100000 in
theorem divide (H L d h q r : Int) (w : World) (h0 : 0 ≤ H) (h1 : H ≤ 18446744073709551615) (l0 : 0 ≤ L) (l1 : L ≤ 18446744073709551615) (hd : 1 ≤ d) (hd' : d ≤ 1000000000000000)
    (hh : Hid (h = H / d)) (hq : Hid (q = V H L d 64 / d)) (hr : Hid (r = V H L d 64 % d)) :
    Calls Try.prog 94 #[.agg #[.int .u64 H, .int .u64 L], .int .u64 d] w fun e w' => e = .returned (.tuple #[.agg #[.int .u64 h, .int .u64 q], .int .u64 r]) ∧ Gr w w' := by
  have S := hide (show H % d = V H L d 0 % d ∧ 0 = V H L d 0 / d by
    rw [V_zero H L d l0 l1, Int.emod_emod]
    exact ⟨rfl, (Int.ediv_eq_zero_of_lt (Int.emod_nonneg _ (by omega)) (Int.emod_lt_of_pos _ (by omega))).symm⟩)
  have s0 : 0 ≤ H % d := Int.emod_nonneg _ (by omega)
  have s1 : H % d < d := Int.emod_lt_of_pos _ (by omega)
  go_enter Try.func94, Try.ntmps94
  go_wp2
  go_loopw [7, 18] (fun r i wr => ∃ (k : Nat) (x q : Int), k ≤ 64 ∧ i = .int .i64 k ∧ r = .int .u64 x ∧ 0 ≤ x ∧ x < d ∧ 0 ≤ q ∧ (k < 64 → q ≤ 9223372036854775807) ∧ Hid (x = V H L d k % d ∧ q = V H L d k / d) ∧
     wr = ((w.alloc (Obj.cells #[Value.int IntKind.u64 H, Value.int IntKind.u64 L] 114)).alloc (Obj.cells #[Value.int IntKind.u64 0, Value.int IntKind.u64 0] 114)).alloc (Obj.cells #[Value.int IntKind.u64 (H / d), Value.int IntKind.u64 q] 114))
    (fun _ i _ => 64 - (intOf i).toNat)
  case atStart => exact ⟨0, H % d, 0, by omega, rfl, rfl, s0, s1, by omega, by omega, S, rfl⟩
  case round =>
    obtain ⟨k, x, q, hk, rfl, rfl, x0, x1, q0, q1, HD, rfl⟩ := hrel
    by_cases hlt : k < 64
    · have q2 := q1 hlt
      clear q1
      obtain ⟨m, hm⟩ : ∃ m, m = L / 2 ^ (63 - k) % 2 := ⟨_, rfl⟩
      have m0 : 0 ≤ m := by omega
      have m1 : m ≤ 1 := by omega
      have t0 : 0 ≤ L / 2 ^ (63 - k) := Int.ediv_nonneg l0 (Int.le_of_lt (two_pos _))
      have t1 : L / 2 ^ (63 - k) ≤ 18446744073709551615 := Int.le_trans (Int.ediv_le_self _ l0) l1
      have E1 := join_bit x (L / 2 ^ (63 - k)) x0 (by omega) t0 t1
      rw [← hm] at E1
      have E2 := join_one q q0 q2
      have vs := V_step H L d k hlt
      rw [← hm] at vs
      have st := step_div (V H L d k) d m (by omega) q x (unhide HD).2 (unhide HD).1 m0 (x * 2 + m) (by omega) (by omega)
      rw [← vs] at st
      have qb := V_half H L d (k + 1)
      have ST := hide st
      have QB := hide qb
      clear st vs qb hm t0 t1 S
      go_wp2
      · have hge : d ≤ x * 2 + m := by assumption
        obtain ⟨g1, g2⟩ := (unhide ST).2 hge
        go_roundw
        case rel =>
          refine ⟨k + 1, x * 2 + m - d, q * 2 + 1, by omega, by go_num, by go_num, by omega, by omega, by omega, fun h => ?_, hide ⟨by omega, by omega⟩, rfl⟩
          have := (unhide QB) h (by omega) l0 l1
          omega
        case measure => simp [intOf]; omega
      · have hge : x * 2 + m < d := by assumption
        obtain ⟨g1, g2⟩ := (unhide ST).1 hge
        go_roundw
        case rel =>
          refine ⟨k + 1, x * 2 + m, q * 2, by omega, by go_num, by go_num, by omega, by omega, by omega, fun h => ?_, hide ⟨by omega, by omega⟩, rfl⟩
          have := (unhide QB) h (by omega) l0 l1
          omega
        case measure => simp [intOf]; omega
    · obtain rfl : k = 64 := by omega
      obtain ⟨g1, g2⟩ := unhide HD
      rw [← unhide hr] at g1
      rw [← unhide hq] at g2
      subst g1 g2
      clear hq hr HD
      go_wp2
      refine bodyPost_ret (v := .tuple #[.agg #[.int .u64 (H / d), .int .u64 q], .int .u64 x]) (by simp [results, Try.results94, go_sem]) rfl ⟨by rw [unhide hh], ?_⟩
      repeat (first | exact Gr.refl _ | apply Gr.drew | apply Gr.alloc)

theorem amount_yes (L : Int) (w : World) (l0 : 0 ≤ L) (l1 : L ≤ 1000000000000000)  :
    Calls Try.prog 95 #[.agg #[.int .u64 0, .int .u64 L]] w fun e w' => e = .returned (.tuple #[.int .i64 L, .bool true]) ∧ Gr w w' := by
  go_enter Try.func95, Try.ntmps95
  go_wp2
  go_ret2
  exact ⟨rfl, by repeat (first | exact Gr.refl _ | apply Gr.drew | apply Gr.alloc)⟩

theorem amount_high (H L : Int) (w : World) (h : 1 ≤ H) :
    Calls Try.prog 95 #[.agg #[.int .u64 H, .int .u64 L]] w fun e w' => e = .returned (.tuple #[.int .i64 0, .bool false]) ∧ Gr w w' := by
  have hb : (H != 0) = true := by rw [bne_iff_ne]; omega
  go_enter Try.func95, Try.ntmps95
  go_wp2
  go_ret2
  exact ⟨rfl, by repeat (first | exact Gr.refl _ | apply Gr.drew | apply Gr.alloc)⟩

theorem amount_low (L : Int) (w : World) (h : 1000000000000000 < L) :
    Calls Try.prog 95 #[.agg #[.int .u64 0, .int .u64 L]] w fun e w' => e = .returned (.tuple #[.int .i64 0, .bool false]) ∧ Gr w w' := by
  go_enter Try.func95, Try.ntmps95
  go_wp2
  go_ret2
  exact ⟨rfl, by repeat (first | exact Gr.refl _ | apply Gr.drew | apply Gr.alloc)⟩

end Go.Proofs.Ytdnpjjbphamcmaa.Wide
