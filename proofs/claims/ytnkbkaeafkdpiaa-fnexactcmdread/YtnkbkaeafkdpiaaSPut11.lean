/- Bytes: appending, and the specification's PutNum. -/
import Derived.Test.YtnkbkaeafkdpiaaSBytes
import Derived.Test.YtnkbkaeafkdpiaaByteH
import Derived.Maps.AppendAt
namespace Go.Proofs.Ytnkbkaeafkdpiaa.SPut11
open Go.ChangeShapes Go.WideShapes Go.ChangeAt Go.RowKit SBytes
open ByteH (Own At)
set_option linter.unusedVariables false
set_option linter.unusedSimpArgs false

theorem own_of_row {w : World} {base n n' : Nat} {v : Value} {vs : List Value} {xs : List Int} (h : w.ownsRow base 5 1 v n vs) (hn : n = n') (e : vs = xs.map (Value.int .u8)) (hv : ¬ v = .slice none 0 0) :
    ∃ g c, v = .slice (some ⟨g, 0, none⟩) n' c ∧ Own w base g n' c xs := by
  subst hn e
  have h' := h
  rcases h.2 with ⟨h1, _⟩ | ⟨g, c, cur, rfl, _⟩
  · exact absurd h1 hv
  · exact ⟨g, c, rfl, h'⟩

theorem own_alloc {w : World} {base g n cap : Nat} {xs : List Int} (h : Own w base g n cap xs) (o : Obj) : Own (w.alloc o) base g n cap xs := World.ownsRow.alloc h o

theorem lit0 (w : World) (base : Nat) {g : Nat} (hb : base ≤ w.heap.size) (hg : g = w.heap.size) : Own (w.alloc (.cells #[] 5)) base g 0 0 [] := by
  subst hg
  exact World.ownsRow_lit w #[] 0 hb (by decide) rfl

/-- Bytes that lie from a place on. -/
def AtO (w : World) (g o : Nat) (xs : List Int) : Prop := ∀ i, i < xs.length → w.cell? ⟨g, o + i, none⟩ = some (.int .u8 (xs.getD i 0))

theorem AtO.of {w : World} {g : Nat} {xs : List Int} (h : At w g xs) : AtO w g 0 xs := fun i hi => by rw [Nat.zero_add]; exact h i hi

/-- Bytes appended to bytes of the call's own. -/
theorem wp_catB (u : World) {ops : Array Oper} {rest : List Oper} {o : Oper} {a : Act} {Q : Exit → Act → World → Prop} (hgd : o.guard = none) (s x : Operand)
    (ho : o.op = .call { callee := .builtin .append, args := #[s, x], argTypes := #[22, 22] }) (base g n cap m : Nat) (xs ys : List Int) (vb off c : Nat)
    (hs : a.eval s = .slice (some ⟨g, 0, none⟩) n cap) (hx : a.eval x = .slice (some ⟨vb, off, none⟩) m c) (hown : Own u base g n cap xs) (hl : ys.length = m) (hv : AtO u vb off ys) (hn : n + m ≤ 9223372036854) (hb : base ≤ u.heap.size)
    (h : ∀ g' c' w', Own w' base g' (n + m) c' (xs ++ ys) → u.grownBy w' (some g) → (g' = g ∨ g' = u.heap.size) → wpList Try.prog ops Q rest (a.put o.dst (.slice (some ⟨g', 0, none⟩) (n + m) c')) w') : wpList Try.prog ops Q (o :: rest) a u := by
  obtain ⟨i0, hi, hz0, hz1, hz2⟩ := info_parts ByteH.info8
  refine wpList_append_own_at u hgd s x 22 ho base 5 i0 (.int .u8 0) 1 1 Try.underlying22 hi hz0 hz1 hz2 rfl (by decide) _ n _ hs hown ⟨vb, off, none⟩ m c (ys.map (Value.int .u8)) hx (by simp [hl]) (fun j v hj => by
    have hj' : j < ys.length := by
      have := (List.getElem?_eq_some_iff.1 hj).1
      simpa using this
    have := hv j hj'
    rw [Addr.add_lit, this]
    rw [← hj]
    simp [List.getD, hj']) (by intro u hu; obtain ⟨y, _, rfl⟩ := List.mem_map.1 hu; simp [Value.oneCell']) (by unfold maxLen; omega) (by omega) hb ?_
  intro v' w' own' gr' nil' loc'
  obtain ⟨g', c', rfl, o'⟩ := own_of_row (n' := n + m) (xs := xs ++ ys) own' rfl (by simp) (by rw [nil']; simp)
  exact h g' c' w' o' gr' (by simpa [Value.ownBlock] using loc')

theorem lit_one (w : World) (y : Int) : AtO (w.alloc (.cells #[.int .u8 y] 5)) w.heap.size 0 [y] := by
  intro i hi
  have : i = 0 := by simpa using hi
  subst this
  simp

/-- The form of a number: seven bits a byte, the lowest first. -/
def numF (x : Nat) : List Int := if 127 < x then ((x % 128 + 128 : Nat) : Int) :: numF (x / 128) else [(x : Int)]
termination_by x

theorem numF_more {x : Nat} (h : 127 < x) : numF x = ((x % 128 + 128 : Nat) : Int) :: numF (x / 128) := by rw [numF, if_pos h]
theorem numF_last {x : Nat} (h : ¬ 127 < x) : numF x = [(x : Int)] := by rw [numF, if_neg h]

theorem numF_len (n : Nat) : ∀ x : Nat, x < 128 ^ (n + 1) → (numF x).length ≤ n + 1 := by
  induction n with
  | zero => intro x h; rw [numF_last (by omega)]; simp
  | succ n ih =>
    intro x h
    by_cases t : 127 < x
    · rw [numF_more t]
      have := ih (x / 128) (by rw [Nat.pow_succ] at h; omega)
      simp
      omega
    · rw [numF_last t]; simp

theorem numF_in (n : Nat) : ∀ x : Nat, x < 128 ^ (n + 1) → ∀ y ∈ numF x, 0 ≤ y ∧ y ≤ 255 := by
  induction n with
  | zero =>
    intro x h y hy
    rw [numF_last (by omega)] at hy
    simp at hy
    omega
  | succ n ih =>
    intro x h y hy
    by_cases t : 127 < x
    · rw [numF_more t] at hy
      rcases List.mem_cons.1 hy with rfl | hy
      · omega
      · exact ih (x / 128) (by rw [Nat.pow_succ] at h; omega) y hy
    · rw [numF_last t] at hy
      simp at hy
      omega

/-- What PutNum answers. -/
def numB (x : Int) : List Int := if x < 0 then [] else numF x.toNat

theorem numF_nine {x : Nat} (h : x ≤ 9223372036854775807) : (numF x).length ≤ 9 := numF_len 8 x (by omega)
theorem numB_nine {x : Int} (h : x ≤ 9223372036854775807) : (numB x).length ≤ 9 := by
  unfold numB
  split
  · simp
  · exact numF_nine (by omega)

theorem one_more (w : World) (o : Obj) : Below w.heap.size w (w.alloc o) := (Below.refl _ _).alloc (Nat.le_refl _) _

set_option maxRecDepth 100000 in
set_option maxHeartbeats 4000000 in
theorem sPutNum (w : World) (x0 : Int) (hx : x0 ≤ 9223372036854775807) :
    Calls Try.prog 36 #[.int .i64 x0] w fun e w' => ∃ g c, e = .returned (.slice (some ⟨g, 0, none⟩) (numB x0).length c) ∧ Own w' w.heap.size g (numB x0).length c (numB x0) ∧ Below w.heap.size w w' := by
  have O0 := hide (lit0 w w.heap.size (Nat.le_refl _) rfl)
  have B0 := hide (one_more w (.cells #[] 5))
  by_cases h0 : x0 < 0
  · have e : numB x0 = [] := if_pos h0
    rw [e]
    clear e hx
    go_enter Try.func36, Try.ntmps36
    go_wp2
    go_ret
    exact ⟨w.heap.size, 0, rfl, unhide O0, unhide B0⟩
  have e : numB x0 = numF x0.toNat := if_neg h0
  rw [e]
  have L := hide (numF_nine (x := x0.toNat) (by omega))
  clear e
  obtain ⟨r, hr⟩ : ∃ r, Hid (numF x0.toNat = r) := ⟨_, rfl⟩
  rw [unhide hr] at L ⊢
  have h1 : 0 ≤ x0 := by omega
  have S0 := hide (show ([] : List Int) ++ numF x0.toNat = r from unhide hr)
  clear hr h0
  go_enter Try.func36, Try.ntmps36
  go_wp2
  go_loopw [0, 3] (fun a l wr => ∃ (x : Int) (p : List Int) (g c : Nat), a = .int .i64 x ∧ l = .slice (some ⟨g, 0, none⟩) p.length c ∧ 0 ≤ x ∧ x ≤ 9223372036854775807 ∧ Hid (p ++ numF x.toNat = r) ∧ Hid (Own wr w.heap.size g p.length c p) ∧ Hid (Below w.heap.size w wr)) (fun a _ _ => (intOf a).toNat)
  case atStart => exact ⟨x0, [], w.heap.size, 0, rfl, rfl, h1, hx, S0, O0, B0⟩
  case round =>
    clear O0 B0 S0 hx h1
    obtain ⟨x, p, g, c, rfl, rfl, x1, x2, HR, HO, HB⟩ := hrel
    have bs := (unhide HB).size
    have pl : p.length ≤ 9 := by have a := unhide L; rw [← unhide HR] at a; simp at a; omega
    have og := (unhide HO).lt
    have HX := hide (And.intro x1 x2)
    by_cases t : 127 < x
    · have N := hide (show (p ++ [x % 128 + 128]) ++ numF (x / 128).toNat = r from by
        rw [← unhide HR, numF_more (x := x.toNat) (by omega), List.append_assoc]
        have e1 : ((x.toNat % 128 + 128 : Nat) : Int) = x % 128 + 128 := by omega
        have e2 : x.toNat / 128 = (x / 128).toNat := by omega
        rw [e1, e2]; rfl)
      have E := hide (show wrap64 (x.tdiv 128) = x / 128 from by rw [Int.tdiv_eq_ediv_of_nonneg x1, wrap64]; omega)
      clear HR x1 x2
      go_wp2_with (first | (at_builtin; refine wp_catB _ rfl _ _ rfl w.heap.size g p.length c 1 p [x % 128 + 128] wr.heap.size 0 1 rfl rfl (own_alloc (unhide HO) _) rfl (lit_one _ _) (by omega) (by simp; omega) ?_) | go_in)
      intro g5 c5 w5 o5 gr5 loc5
      have O5 := hide o5
      have B5 := hide (((unhide HB).alloc (by omega) (.cells #[.int .u8 (x % 128 + 128)] 5)).grown gr5 (by simp; omega) (fun j hj => by cases hj; exact og.1))
      clear o5 gr5 loc5
      go_wp2
      go_roundw
      case rel =>
        have xx := unhide HX
        exact ⟨x / 128, p ++ [x % 128 + 128], g5, c5, congrArg (Value.int .i64) (unhide E), by rw [show (p ++ [x % 128 + 128]).length = p.length + 1 by simp], by omega, by omega, N, hide (by rw [show (p ++ [x % 128 + 128]).length = p.length + 1 by simp]; exact unhide O5), B5⟩
      case measure =>
        have xx := unhide HX
        have e := unhide E
        simp [intOf, e]
        omega
    · have N := hide (show p ++ [x] = r from by
        rw [← unhide HR, numF_last (x := x.toNat) (by omega)]
        have e1 : ((x.toNat : Nat) : Int) = x := by omega
        rw [e1])
      clear HR
      go_wp2_with (first | (at_builtin; refine wp_catB _ rfl _ _ rfl w.heap.size g p.length c 1 p [x] wr.heap.size 0 1 rfl rfl (own_alloc (unhide HO) _) rfl (lit_one _ _) (by omega) (by simp; omega) ?_) | go_in)
      intro g5 c5 w5 o5 gr5 loc5
      have O5 := hide o5
      have B5 := hide (((unhide HB).alloc (by omega) (.cells #[.int .u8 x] 5)).grown gr5 (by simp; omega) (fun j hj => by cases hj; exact og.1))
      clear o5 gr5 loc5
      go_wp2
      go_ret
      have e := unhide N
      have e1 : r.length = p.length + 1 := by rw [← e]; simp
      exact ⟨g5, c5, by rw [e1]; rfl, by rw [e1, ← e]; exact unhide O5, unhide B5⟩

end Go.Proofs.Ytnkbkaeafkdpiaa.SPut11
