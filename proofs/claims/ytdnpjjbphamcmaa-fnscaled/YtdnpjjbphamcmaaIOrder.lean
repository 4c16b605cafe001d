/- Contracts of the program's shareQuotas and ShareOrder: the whole shares and the rests of all weights in two new lists; the numbers in their order in a new list; nothing where the arguments are not as the document wants them. Condition: a list of at most 2^20 numbers. -/
import Derived.Test.YtdnpjjbphamcmaaISort
import Derived.Test.YtdnpjjbphamcmaaSOrder
namespace Go.Proofs.Ytdnpjjbphamcmaa.IOrder
open Go.ChangeShapes Go.WideShapes Go.ChangeAt Go.RowKit Ints Small Weigh Quota Order MulC
set_option linter.unusedVariables false
set_option linter.unusedSimpArgs false

/-- The whole shares of the first k numbers. -/
def wholes (t : Int) (xs : List Int) (k : Nat) : List Int := (List.range k).map (Q t xs)

theorem wholes_len (t : Int) (xs : List Int) (k : Nat) : (wholes t xs k).length = k := by simp [wholes]
theorem wholes_getD (t : Int) (xs : List Int) (k j : Nat) (h : j < k) : (wholes t xs k).getD j 0 = Q t xs j := by simp [wholes, List.getD, h]

theorem made_zeros1 (n : Nat) : (madeCells #[Value.int .i64 0] n).toList = (List.replicate n (0 : Int)).map (Value.int .i64) := by
  rw [toList_madeCells_one, List.map_replicate]

set_option maxRecDepth 100000 in
set_option maxHeartbeats 2000000 in
theorem iQuotas (w : World) (t : Int) (g n cap : Nat) (xs : List Int) (hl : xs.length = n) (hg : g < w.heap.size) (h : At w g xs) (good : Weigh.Good xs) (ht : Tot t) :
    Calls Try.prog 82 #[.int .i64 t, .slice (some ⟨g, 0, none⟩) n cap] w fun e w' => ∃ g1 g2, g1 ≠ g2 ∧ e = .returned (.tuple #[.slice (some ⟨g1, 0, none⟩) n n, .slice (some ⟨g2, 0, none⟩) n n, .bool true]) ∧
      Own w' w.heap.size g1 n n (wholes t xs n) ∧ Own w' w.heap.size g2 n n (rests t xs n) ∧ Below w.heap.size w w' := by
  have n40 : n ≤ 40 := by have := good.1.2; omega
  have c1 := iSum w g n cap xs (S xs xs.length) true hl (by omega) h (hide (Or.inl ⟨good, rfl, rfl⟩))
  have s1 := good.2.2
  have MD := hide (fun (k : Nat) (hk : k < n) (W : World) => iMD t (xs.getD k 0) (S xs xs.length) (Q t xs k) (R t xs k) true W ht.1 ht.2 (good.2.1 k (by omega)).1 (good.2.1 k (by omega)).2 s1.1 s1.2 (hide (tells t xs k ht good (by omega))))
  have H := hide h
  have HG := hide hg
  obtain ⟨t0, t1⟩ := ht
  have ta : -1000000000000000 ≤ t := by omega
  have wl := wholes_len t xs n
  have rl := rests_len t xs n
  obtain ⟨i0, hi, hz0, hz1, hz2⟩ := info_parts info3
  generalize S xs xs.length = s at *
  clear h hg good
  have WL := hide wl
  have RL := hide rl
  clear wl rl
  go_enter Try.func82, Try.ntmps82
  go_wp2_with fail
  refine c1.mono ?_
  rintro e w' ⟨rfl, rfl⟩
  go_wp2_with fail
  refine (iAmt_yes t _ ⟨ta, t1⟩).mono ?_
  rintro e w' ⟨rfl, hw'⟩
  subst hw'
  go_wp2_with (at_make; refine wpList_make_full _ rfl (.tmp 30) (.tmp 30) 50 rfl w'.heap.size 3 i0 (.int .i64 0) 1 Try.underlying50 hi hz0 hz1 .i64 .i64 _ _ n rfl rfl rfl rfl (by rw [hz2]; omega) (by unfold maxLen; omega) (Nat.le_refl _) ?_)
  intro w1 o1 gr1
  have o1 : Own w1 w'.heap.size w'.heap.size n n (Ints.part (wholes t xs n) n 0) := by
    have o := o1
    rw [made_zeros1, ← part_zero (wholes t xs n)] at o
    exact o
  have b1 := grownBy_below gr1
  clear gr1
  go_wp2_with (at_make; refine wpList_make_full _ rfl (.tmp 33) (.tmp 33) 50 rfl w'.heap.size 3 i0 (.int .i64 0) 1 Try.underlying50 hi hz0 hz1 .i64 .i64 _ _ n rfl rfl rfl rfl (by rw [hz2]; omega) (by unfold maxLen; omega) b1.size ?_)
  intro w2 o2 gr2
  have o2 : Own w2 w'.heap.size w1.heap.size n n (Ints.part (rests t xs n) n 0) := by
    have o := o2
    rw [made_zeros1, ← part_zero (rests t xs n)] at o
    exact o
  have b2 := grownBy_below gr2
  have o1 := o1.below b2 o1.lt.2
  have l1 : w'.heap.size < w1.heap.size := by have := o1.lt; have := (Own.lt ‹Own w1 w'.heap.size w'.heap.size n n _›).2; omega
  have b2 := next b1 b2
  clear gr2 b1
  go_wp2_with fail
  go_loopw [37] (fun i wr => ∃ (k : Nat), k ≤ n ∧ i = .int .i64 k ∧ Own wr w'.heap.size w'.heap.size n n (Ints.part (wholes t xs n) n k) ∧ Own wr w'.heap.size w1.heap.size n n (Ints.part (rests t xs n) n k) ∧ Below w'.heap.size w' wr) (fun i _ => n - (intOf i).toNat)
  case atStart => exact ⟨0, by omega, rfl, o1, o2, b2⟩
  case round =>
    clear o1 o2 b2
    obtain ⟨k, hk, rfl, o1, o2, b⟩ := hrel
    by_cases lt : k < n
    · have e1 := (unhide H).below b (unhide HG) k (by omega)
      have c2 := unhide MD k lt wr
      generalize xs.getD k 0 = x at *
      go_wp2_with fail
      refine c2.mono ?_
      rintro e w3 ⟨rfl, gr⟩
      have bb := gr.below
      have o1 := o1.below bb o1.lt.2
      have o2 := o2.below bb o2.lt.2
      have b := next b bb
      have a1 := o1.at k (by rw [o1.len]; exact lt)
      have f1 := o1.free k
      obtain ⟨p1, q1⟩ := o1.set k (Q t xs k)
      have o2 := o2.kept q1 (by simp; omega)
      have a2 := o2.at k (by rw [o2.len]; exact lt)
      have f2 := o2.free k
      obtain ⟨p2, q2⟩ := o2.set k (R t xs k)
      have p1 := p1.kept q2 (by simp; omega)
      rw [← wholes_getD t xs n k lt, part_step _ n k (unhide WL) lt, wholes_getD t xs n k lt] at p1
      rw [← rests_getD t xs n k lt, part_step _ n k (unhide RL) lt, rests_getD t xs n k lt] at p2
      have P1 := hide p1
      have P2 := hide p2
      have b := hide ((b.setCell (p := ⟨w'.heap.size, k, none⟩) (Nat.le_refl _) (.int .i64 (Q t xs k))).setCell (p := ⟨w1.heap.size, k, none⟩) (Nat.le_of_lt l1) (.int .i64 (R t xs k)))
      clear p1 p2 q1 q2 o2 bb gr
      generalize (Ints.part (wholes t xs n) n k).getD k 0 = z1 at a1
      generalize (Ints.part (rests t xs n) n k).getD k 0 = z2 at a2
      go_wp2
      go_roundw
      case rel => exact ⟨k + 1, by omega, by go_num, unhide P1, unhide P2, unhide b⟩
      case measure => simp [intOf]; omega
    · obtain rfl : k = n := by omega
      rw [part_all _ k (unhide WL)] at o1
      rw [part_all _ k (unhide RL)] at o2
      have O1 := hide o1
      have O2 := hide o2
      have B := hide b
      have L1 := hide l1
      clear o1 o2 b l1
      go_wp2
      go_ret3
      exact ⟨_, _, by have := unhide L1; omega, rfl, unhide O1, unhide O2, unhide B⟩

set_option maxRecDepth 100000 in
theorem iQuotas_bad (w : World) (t : Int) (g n cap : Nat) (xs : List Int) (hl : xs.length = n) (h20 : n ≤ 1048576) (h : At w g xs) (bad : ¬ (Weigh.Good xs ∧ Tot t)) :
    Calls Try.prog 82 #[.int .i64 t, .slice (some ⟨g, 0, none⟩) n cap] w fun e w' => e = .returned (.tuple #[.slice none 0 0, .slice none 0 0, .bool false]) ∧ w' = w := by
  by_cases good : Weigh.Good xs
  · have c1 := iSum w g n cap xs (S xs xs.length) true hl h20 h (hide (Or.inl ⟨good, rfl, rfl⟩))
    have ht : ¬ Tot t := fun k => bad ⟨good, k⟩
    generalize S xs xs.length = s at *
    rcases amt_or t with ha | ha
    · have tn : t < 0 := by unfold Tot at ht; have := ha.2; omega
      have HA := hide ha
      clear ha ht bad good h
      go_enter Try.func82, Try.ntmps82
      go_wp2_with fail
      refine c1.mono ?_
      rintro e w' ⟨rfl, rfl⟩
      go_wp2_with fail
      refine (iAmt_yes t _ (unhide HA)).mono ?_
      rintro e w' ⟨rfl, rfl⟩
      go_wp2
      go_ret3
      exact ⟨rfl, rfl⟩
    · have HA := hide ha
      clear ha ht bad good h
      go_enter Try.func82, Try.ntmps82
      go_wp2_with fail
      refine c1.mono ?_
      rintro e w' ⟨rfl, rfl⟩
      go_wp2_with fail
      refine (iAmt_no t _ (unhide HA)).mono ?_
      rintro e w' ⟨rfl, rfl⟩
      go_wp2
      go_ret3
      exact ⟨rfl, rfl⟩
  · have c1 := iSum w g n cap xs 0 false hl h20 h (hide (Or.inr ⟨good, rfl, rfl⟩))
    clear bad good h
    go_enter Try.func82, Try.ntmps82
    go_wp2_with fail
    refine c1.mono ?_
    rintro e w' ⟨rfl, rfl⟩
    go_wp2
    go_ret3
    exact ⟨rfl, rfl⟩

end Go.Proofs.Ytdnpjjbphamcmaa.IOrder
