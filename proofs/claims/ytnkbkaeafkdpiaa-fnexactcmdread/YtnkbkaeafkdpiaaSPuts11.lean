/- Bytes: the specification's PutNums, GetNums, Seal. -/
import Derived.Test.YtnkbkaeafkdpiaaSPut11
import Derived.Test.YtnkbkaeafkdpiaaInts
namespace Go.Proofs.Ytnkbkaeafkdpiaa.SPuts11
open Go.ChangeShapes Go.WideShapes Go.ChangeAt Go.RowKit SBytes SPut11
open ByteH (Own At)
set_option linter.unusedVariables false
set_option linter.unusedSimpArgs false

/-- What PutNums answers. -/
def numsB (xs : List Int) : List Int := if ∀ i, i < xs.length → 0 ≤ xs.getD i 0 then xs.flatMap numB else []

theorem flat_next {xs : List Int} {k : Nat} (h : k < xs.length) : (xs.take (k + 1)).flatMap numB = (xs.take k).flatMap numB ++ numB (xs.getD k 0) := by
  rw [List.take_succ_eq_append_getElem h, List.flatMap_append]
  simp [List.getD, h]

theorem flat_len (xs : List Int) (h : ∀ i, i < xs.length → xs.getD i 0 ≤ 9223372036854775807) (k : Nat) (hk : k ≤ xs.length) : ((xs.take k).flatMap numB).length ≤ 9 * k := by
  induction k with
  | zero => simp
  | succ k ih =>
    rw [flat_next (by omega), List.length_append]
    have a := ih (by omega)
    have b := numB_nine (h k (by omega))
    omega

theorem numB_pos {x : Int} (h : 0 ≤ x) : numB x = numF x.toNat := if_neg (by omega)

set_option maxRecDepth 100000 in
set_option maxHeartbeats 4000000 in
theorem sPutNums (w : World) (gl cl : Nat) (xs : List Int) (h20 : xs.length ≤ 1048576) (hg : gl < w.heap.size) (hr : Ints.At w gl xs) (hi : ∀ i, i < xs.length → xs.getD i 0 ≤ 9223372036854775807) :
    Calls Try.prog 43 #[.slice (some ⟨gl, 0, none⟩) xs.length cl] w fun e w' => ∃ g c, e = .returned (.slice (some ⟨g, 0, none⟩) (numsB xs).length c) ∧ Own w' w.heap.size g (numsB xs).length c (numsB xs) ∧ Below w.heap.size w w' := by
  have O0 := hide (lit0 w w.heap.size (Nat.le_refl _) rfl)
  have B0 := hide (one_more w (.cells #[] 5))
  have R := hide hr
  have HI := hide hi
  have HG := hide hg
  obtain ⟨r, hq⟩ : ∃ r, Hid (numsB xs = r) := ⟨_, rfl⟩
  rw [unhide hq]
  clear hr hi hg
  go_enter Try.func43, Try.ntmps43
  go_wp2
  go_loopw [3, 4] (fun l a wr => ∃ (k g c n : Nat), a = .int .i64 k ∧ k ≤ xs.length ∧ l = .slice (some ⟨g, 0, none⟩) n c ∧ n ≤ 9 * k ∧ Hid (n = ((xs.take k).flatMap numB).length) ∧ Hid (∀ i, i < k → 0 ≤ xs.getD i 0) ∧ Hid (Own wr w.heap.size g n c ((xs.take k).flatMap numB)) ∧ Hid (Below w.heap.size w wr)) (fun _ a _ => xs.length - (intOf a).toNat)
  case atStart => exact ⟨0, w.heap.size, 0, 0, rfl, by omega, rfl, by omega, hide (by simp), hide (fun i h => absurd h (by omega)), hide (by simpa using unhide O0), B0⟩
  case round =>
    clear O0 B0
    obtain ⟨k, g, c, n, rfl, hk, rfl, nk, HN, HP, HO, HB⟩ := hrel
    have bs := (unhide HB).size
    have og := (unhide HO).lt
    by_cases t : k < xs.length
    · have d := (((unhide R).below (unhide HB) (unhide HG)) k t)
      have NX := hide (flat_next t)
      have HX := hide ((unhide HI) k t)
      have SG := hide (show 0 ≤ xs.getD k 0 → ∀ i, i < k + 1 → 0 ≤ xs.getD i 0 from fun h i hi => by
        by_cases e : i = k
        · subst e; exact h
        · exact (unhide HP) i (by omega))
      have BAD := hide (show xs.getD k 0 < 0 → r = [] from fun h => by rw [← unhide hq]; exact if_neg (fun a => by have := a k t; omega))
      clear HP
      generalize xs.getD k 0 = y at *
      have kx : (k : Int) < xs.length := by omega
      by_cases y0 : y < 0
      · have e := (unhide BAD) y0
        subst e
        have O5 := hide (lit0 wr w.heap.size bs rfl)
        have B5 := hide ((unhide HB).alloc bs (.cells #[] 5))
        clear BAD SG NX HX hq HI R
        go_wp2
        go_ret
        exact ⟨_, 0, rfl, unhide O5, unhide B5⟩
      · have S1 := hide ((unhide SG) (by omega))
        have nine := numB_nine (unhide HX)
        have xl := unhide HX
        clear BAD SG
        go_wp2_with fail
        refine (sPutNum _ y xl).mono ?_
        rintro e u ⟨g1, c1, rfl, o1, b1⟩
        have O1 := hide o1
        have B1 := hide ((unhide HB).trans (b1.mono bs))
        have HO1 := hide ((unhide HO).below b1 og.2)
        have us := b1.size
        clear o1 b1
        go_wp2_with (first | (at_builtin; refine wp_catB _ rfl _ _ rfl w.heap.size g n c (numB y).length _ (numB y) g1 0 c1 rfl rfl (unhide HO1) rfl (AtO.of (unhide O1).at) (by omega) (by omega) ?_) | go_in)
        intro g5 c5 w5 o5 gr5 loc5
        have O5 := hide o5
        have B5 := hide ((unhide B1).grown gr5 (by omega) (fun j hj => by cases hj; exact og.1))
        clear o5 gr5 loc5
        go_wp2
        go_roundw
        case rel => exact ⟨k + 1, g5, c5, n + (numB y).length, by go_num, by omega, rfl, by omega, hide (by rw [unhide NX, List.length_append, ← unhide HN]), S1, hide (by rw [unhide NX]; exact unhide O5), B5⟩
        case measure => simp [intOf]; omega
    · have e : k = xs.length := by omega
      subst e
      have E := hide (show xs.flatMap numB = r from by rw [← unhide hq]; exact (if_pos (unhide HP)).symm)
      have N := unhide HN
      have O := unhide HO
      rw [List.take_length] at N O
      rw [unhide E] at N O
      have O5 := hide O
      have N5 := hide N
      clear N O HN HO HP
      go_wp2
      go_ret
      have e := unhide N5
      subst e
      exact ⟨g, c, rfl, unhide O5, unhide HB⟩

theorem own_of_rowI {w : World} {base n n' : Nat} {v : Value} {vs : List Value} {xs : List Int} (h : w.ownsRow base 3 1 v n vs) (hn : n = n') (e : vs = xs.map (Value.int .i64)) (hv : ¬ v = .slice none 0 0) :
    ∃ g c, v = .slice (some ⟨g, 0, none⟩) n' c ∧ Ints.Own w base g n' c xs := by
  subst hn e
  have h' := h
  rcases h.2 with ⟨h1, _⟩ | ⟨g, c, cur, rfl, _⟩
  · exact absurd h1 hv
  · exact ⟨g, c, rfl, h'⟩

theorem own_allocI {w : World} {base g n cap : Nat} {xs : List Int} (h : Ints.Own w base g n cap xs) (o : Obj) : Ints.Own (w.alloc o) base g n cap xs := World.ownsRow.alloc h o

theorem lit0I (w : World) (base : Nat) {g : Nat} (hb : base ≤ w.heap.size) (hg : g = w.heap.size) : Ints.Own (w.alloc (.cells #[] 3)) base g 0 0 [] := by
  subst hg
  exact World.ownsRow_lit w #[] 0 hb (by decide) rfl

/-- A number appended to a list of numbers. -/
theorem wp_appI (u : World) {ops : Array Oper} {rest : List Oper} {o : Oper} {a : Act} {Q : Exit → Act → World → Prop} (hgd : o.guard = none) (s x : Operand)
    (ho : o.op = .call { callee := .builtin .append, args := #[s, x], argTypes := #[32, 32] }) (base g n cap : Nat) (xs : List Int) (vb : Nat) (y : Int)
    (hs : a.eval s = .slice (some ⟨g, 0, none⟩) n cap) (hx : a.eval x = .slice (some ⟨vb, 0, none⟩) 1 1) (hown : Ints.Own u base g n cap xs) (hv : u.cell? ⟨vb, 0, none⟩ = some (.int .i64 y)) (hn : n ≤ 1048576) (hb : base ≤ u.heap.size)
    (h : ∀ g' c' w', Ints.Own w' base g' (n + 1) c' (xs ++ [y]) → u.grownBy w' (some g) → (g' = g ∨ g' = u.heap.size) → wpList Try.prog ops Q rest (a.put o.dst (.slice (some ⟨g', 0, none⟩) (n + 1) c')) w') : wpList Try.prog ops Q (o :: rest) a u := by
  obtain ⟨i0, hi, hz0, hz1, hz2⟩ := info_parts Ints.info3
  refine wpList_append_own_at u hgd s x 32 ho base 3 i0 (.int .i64 0) 1 8 Try.underlying32 hi hz0 hz1 hz2 rfl (by decide) _ n _ hs hown ⟨vb, 0, none⟩ 1 1 [.int .i64 y] hx rfl (fun j v hj => by
    cases j with
    | zero =>
      have e : v = .int .i64 y := by simpa using hj.symm
      rw [e]
      simpa [Addr.add] using hv
    | succ j => simp at hj) (by simp [Value.oneCell']) (by unfold maxLen; omega) (by omega) hb ?_
  intro v' w' own' gr' nil' loc'
  obtain ⟨g', c', rfl, o'⟩ := own_of_rowI (n' := n + 1) (xs := xs ++ [y]) own' rfl (by simp) (by rw [nil']; simp)
  exact h g' c' w' o' gr' (by simpa [Value.ownBlock] using loc')

/-- Numbers read one behind the other: those read, the place then, and whether all were there. -/
def gets (xs : List Int) : Nat → Int → List Int → List Int × Int × Bool
  | 0, p, l => (l, p, true)
  | m + 1, p, l => if (getN xs p).2.2 = true then gets xs m (getN xs p).2.1 (l ++ [(getN xs p).1]) else ([], 0, false)

/-- What GetNums answers. -/
def getsN (xs : List Int) (p many : Int) : List Int × Int × Bool :=
  if (0 ≤ many ∧ many ≤ 2000) ∧ 0 ≤ p ∧ p ≤ xs.length then gets xs many.toNat p [] else ([], 0, false)

end Go.Proofs.Ytnkbkaeafkdpiaa.SPuts11
