/- Forms of numbers: what is read is written as it was. No memory, lists alone. -/
import Derived.Test.YtnkbkaeafkdpiaaRT11
import Derived.Test.YtnkbkaeafkdpiaaSRead12
namespace Go.Proofs.Ytnkbkaeafkdpiaa.RT12
open Go.ChangeShapes Go.WideShapes Go.ChangeAt Go.RowKit SBytes SPut11 SPuts11 SPack12 SRead12 RT11
set_option linter.unusedVariables false
set_option linter.unusedSimpArgs false

/-- The bytes of a list from a place on. -/
def piece (xs : List Int) (f n : Nat) : List Int := (xs.drop f).take n

theorem piece_cons {xs : List Int} {f n : Nat} (h : f < xs.length) : piece xs f (n + 1) = xs.getD f 0 :: piece xs (f + 1) n := by
  unfold piece
  rw [List.drop_eq_getElem_cons h, List.take_succ_cons]
  simp [List.getD, h]

theorem piece_add (xs : List Int) (f n m : Nat) (h : f + n ≤ xs.length) : piece xs f (n + m) = piece xs f n ++ piece xs (f + n) m := by
  unfold piece
  rw [List.take_add, List.drop_drop]

/-- A number that is read: its form stands there. -/
theorem getF_inv (xs : List Int) (hb : ∀ i, i < xs.length → 0 ≤ xs.getD i 0 ∧ xs.getD i 0 ≤ 255) (q : Nat) : ∀ f k, (getF xs q f k).2.2 = true →
    ∃ m : Nat, (getF xs q f k).1 = val xs q k + (m : Int) * 128 ^ k ∧ (getF xs q f k).2.1 = ((q + k + (numF m).length : Nat) : Int) ∧ piece xs (q + k) (numF m).length = numF m ∧ q + k + (numF m).length ≤ xs.length ∧ (0 < k → m ≠ 0)
  | 0, k => by simp [getF]
  | f + 1, k => by
    intro h
    simp only [getF] at h ⊢
    by_cases a : q + k < xs.length
    · rw [if_pos a] at h ⊢
      obtain ⟨d0, d1⟩ := hb (q + k) a
      by_cases b : xs.getD (q + k) 0 < 128
      · rw [if_pos b] at h ⊢
        by_cases c : xs.getD (q + k) 0 = 0 ∧ 0 < k
        · rw [if_pos c] at h; simp at h
        · rw [if_neg c]
          refine ⟨(xs.getD (q + k) 0).toNat, ?_, ?_, ?_, ?_, ?_⟩
          · simp only [val]
            rw [show xs.getD (q + k) 0 % 128 = xs.getD (q + k) 0 by omega, show (((xs.getD (q + k) 0).toNat : Nat) : Int) = xs.getD (q + k) 0 by omega]
          · rw [numF_last (by omega)]; simp
          · rw [numF_last (by omega), List.length_singleton, piece_cons a, show (((xs.getD (q + k) 0).toNat : Nat) : Int) = xs.getD (q + k) 0 by omega]
            rfl
          · rw [numF_last (by omega)]; simp; omega
          · intro hk e
            exact c ⟨by omega, hk⟩
      · rw [if_neg b] at h ⊢
        obtain ⟨m, e1, e2, e3, e4, e5⟩ := getF_inv xs hb q f (k + 1) h
        have m0 := e5 (by omega)
        obtain ⟨dn, hd⟩ : ∃ dn : Nat, xs.getD (q + k) 0 = ((dn + 128 : Nat) : Int) := ⟨(xs.getD (q + k) 0 - 128).toNat, by omega⟩
        have dl : dn < 128 := by omega
        have nm : numF (dn + 128 * m) = ((dn + 128 : Nat) : Int) :: numF m := by
          rw [numF_more (by omega), show (dn + 128 * m) % 128 = dn by omega, show (dn + 128 * m) / 128 = m by omega]
        refine ⟨dn + 128 * m, ?_, ?_, ?_, ?_, ?_⟩
        · rw [e1, pow_more]
          simp only [val]
          rw [hd, show (((dn + 128 : Nat) : Int)) % 128 = (dn : Int) by omega, show ((dn + 128 * m : Nat) : Int) = (dn : Int) + (m : Int) * 128 by omega, Int.add_mul, Int.mul_assoc, Int.mul_comm (128 : Int) (128 ^ k), Int.add_assoc]
        · rw [e2, nm]; simp; omega
        · rw [nm, List.length_cons, piece_cons a, hd, show q + k + 1 = q + (k + 1) by omega, e3]
        · rw [nm]; simp; omega
        · intro _; omega
    · rw [if_neg a] at h; simp at h

theorem getN_inv (xs : List Int) (hb : ∀ i, i < xs.length → 0 ≤ xs.getD i 0 ∧ xs.getD i 0 ≤ 255) (p : Nat) (h : (getN xs p).2.2 = true) :
    (getN xs p).2.1 = ((p + (numB (getN xs p).1).length : Nat) : Int) ∧ piece xs p (numB (getN xs p).1).length = numB (getN xs p).1 ∧ p + (numB (getN xs p).1).length ≤ xs.length := by
  unfold getN at h ⊢
  by_cases a : (p : Int) < 0 ∨ (xs.length : Int) ≤ p
  · rw [if_pos a] at h; simp at h
  · rw [if_neg a] at h ⊢
    rw [Int.toNat_natCast] at h ⊢
    obtain ⟨m, e1, e2, e3, e4, _⟩ := getF_inv xs hb p 9 0 h
    have e : (getF xs p 9 0).1 = (m : Int) := by rw [e1]; simp [val]
    have n : numB (m : Int) = numF m := by rw [numB_pos (by omega), Int.toNat_natCast]
    rw [e, n]
    rw [Nat.add_zero] at e2 e3 e4
    exact ⟨e2, e3, e4⟩

/-- Numbers that are read one behind the other: their forms stand there. -/
theorem gets_inv (xs : List Int) (hb : ∀ i, i < xs.length → 0 ≤ xs.getD i 0 ∧ xs.getD i 0 ≤ 255) : ∀ (m p : Nat) (l : List Int), p ≤ xs.length → (gets xs m p l).2.2 = true →
    ∃ ns, (gets xs m p l).1 = l ++ ns ∧ (gets xs m p l).2.1 = ((p + (ns.flatMap numB).length : Nat) : Int) ∧ piece xs p (ns.flatMap numB).length = ns.flatMap numB ∧ p + (ns.flatMap numB).length ≤ xs.length
  | 0, p, l, hp, _ => ⟨[], by simp [gets], by simp [gets], by simp [piece], by simpa using hp⟩
  | m + 1, p, l, hp, h => by
    simp only [gets] at h ⊢
    by_cases c : (getN xs p).2.2 = true
    · rw [if_pos c] at h ⊢
      obtain ⟨g1, g2, g3⟩ := getN_inv xs hb p c
      rw [g1] at h ⊢
      obtain ⟨ns, e1, e2, e3, e4⟩ := gets_inv xs hb m (p + (numB (getN xs p).1).length) (l ++ [(getN xs p).1]) g3 h
      refine ⟨(getN xs p).1 :: ns, by rw [e1]; simp, ?_, ?_, ?_⟩
      · rw [e2, List.flatMap_cons, List.length_append]; omega
      · rw [List.flatMap_cons, List.length_append, piece_add _ _ _ _ g3, g2, e3]
      · rw [List.flatMap_cons, List.length_append]; omega
    · rw [if_neg c] at h; simp at h

/-- What is packed is read as itself. -/
theorem read_pack (c v : Int) (h : RpOk c v) : readR (packR c v) = (c, v, true) := by
  have e : packR c v = [c, v + 1000000000000000].flatMap numB := by
    unfold packR
    rw [if_pos h]
    simp
  obtain ⟨⟨h0, h1⟩, h2, h3⟩ := h
  have g := gets_nums [c, v + 1000000000000000] [] [] [] (fun x hx => by
    rcases List.mem_cons.1 hx with rfl | hx
    · omega
    · simp at hx; omega) (packR c v) (by rw [e]; simp)
  simp only [List.length_nil, List.nil_append, Nat.zero_add, List.length_cons] at g
  have gn : getsN (packR c v) 0 2 = ([c, v + 1000000000000000], ((packR c v).length : Int), true) := by
    unfold getsN
    rw [if_pos ⟨⟨by omega, by omega⟩, by omega, by omega⟩]
    rw [← e] at g
    exact g
  unfold readR
  rw [gn]
  have e1 : ([c, v + 1000000000000000] : List Int).getD 0 0 = c := rfl
  have e2 : ([c, v + 1000000000000000] : List Int).getD 1 0 = v + 1000000000000000 := rfl
  simp only [e1, e2]
  rw [show v + 1000000000000000 - 1000000000000000 = v by omega, if_pos ⟨trivial, trivial, ⟨h0, h1⟩, h2, h3⟩]

/-- What is read packs to just those bytes. -/
theorem pack_read (xs : List Int) (hb : ∀ i, i < xs.length → 0 ≤ xs.getD i 0 ∧ xs.getD i 0 ≤ 255) (h : (readR xs).2.2 = true) : RpOk (readR xs).1 (readR xs).2.1 ∧ packR (readR xs).1 (readR xs).2.1 = xs := by
  unfold readR at h ⊢
  split at h
  · next o =>
    rw [if_pos o]
    obtain ⟨o1, o2, o3⟩ := o
    simp only
    refine ⟨o3, ?_⟩
    have l2 := getsN_full xs 0 2 o1
    have gd : getsN xs 0 2 = gets xs 2 ((0 : Nat) : Int) [] := by
      unfold getsN
      rw [if_pos ⟨⟨by omega, by omega⟩, by omega, by omega⟩]
      rfl
    have c22 : ((2 : Nat) : Int) = 2 := rfl
    rw [c22] at l2
    rw [gd] at o1 o2 o3 l2 ⊢
    obtain ⟨ns, e1, e2, e3, e4⟩ := gets_inv xs hb 2 0 [] (by omega) o1
    rw [List.nil_append] at e1
    rw [e1] at l2 o3 ⊢
    rw [e2] at o2
    have fl : (ns.flatMap numB).length = xs.length := by omega
    rw [fl] at e3
    match ns, l2 with
    | [a, b], _ =>
      have e5 : ([a, b] : List Int).getD 0 0 = a := rfl
      have e6 : ([a, b] : List Int).getD 1 0 = b := rfl
      rw [e5, e6] at o3 ⊢
      unfold packR
      rw [if_pos o3, show b - 1000000000000000 + 1000000000000000 = b by omega]
      have : piece xs 0 xs.length = xs := by simp [piece]
      rw [this] at e3
      rw [e3]
      simp
  · simp at h

end Go.Proofs.Ytnkbkaeafkdpiaa.RT12
