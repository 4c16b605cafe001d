/- Books with no program in sight: what is right, and what each command makes of them. -/
import Derived.Test.YtophnnmbgpinfaaChart
import Derived.Test.YtophnnmbgpinfaaBals
import Derived.Test.YtophnnmbgpinfaaTakes
import Derived.Test.YtophnnmbgpinfaaTup8
namespace Go.Proofs.Ytophnnmbgpinfaa.Bks
open Go Go.RowKit
open Bals (T3 el3 val sumI)
open Tup5 (T5 el5)
open Tup8 (T8 el8)
open Lots (qtyOf NoOk Says says_of mergeL ownL restL One)
open Takes (sumQ takeL takeC)
set_option linter.unusedVariables false
set_option linter.unusedSimpArgs false

/-- The kind that a list tells of a number: of the first one that has it. -/
def kindOf : List (Int × Int) → Int → Int
  | [], _ => 0
  | p :: r, no => if p.1 = no then p.2 else kindOf r no

theorem kind_mem : ∀ (ps : List (Int × Int)) (no : Int), kindOf ps no ≠ 0 → (no, kindOf ps no) ∈ ps
  | [], no, h => absurd rfl h
  | p :: r, no, h => by
    unfold kindOf at h ⊢
    by_cases e : p.1 = no
    · rw [if_pos e]; obtain ⟨a, b⟩ := p; obtain rfl : a = no := e; exact List.mem_cons_self
    · rw [if_neg e] at h ⊢; exact List.mem_cons_of_mem _ (kind_mem r no h)

theorem kind_none : ∀ (ps : List (Int × Int)) (no : Int), (∀ p ∈ ps, p.1 ≠ no) → kindOf ps no = 0
  | [], _, _ => rfl
  | p :: r, no, h => by
    unfold kindOf
    rw [if_neg (h p List.mem_cons_self), kind_none r no (fun q hq => h q (List.mem_cons_of_mem _ hq))]

theorem el_mem {ps : List (Int × Int)} {i : Nat} (h : i < ps.length) : Chart.el ps i ∈ ps := by
  unfold Chart.el
  simp [List.getD, h]

theorem mem_el {ps : List (Int × Int)} {p : Int × Int} (h : p ∈ ps) : ∃ i, i < ps.length ∧ Chart.el ps i = p := by
  obtain ⟨i, hi, rfl⟩ := List.getElem_of_mem h
  exact ⟨i, hi, by simp [Chart.el, List.getD, hi]⟩

theorem kind_of_mem {ps : List (Int × Int)} (h : ∀ p ∈ ps, ∀ q ∈ ps, p.1 = q.1 → p = q) : ∀ p ∈ ps, kindOf ps p.1 = p.2 := by
  induction ps with
  | nil => intro p hp; simp at hp
  | cons q r ih =>
    intro p hp
    unfold kindOf
    by_cases e : q.1 = p.1
    · rw [if_pos e, h q List.mem_cons_self p hp e]
    · rw [if_neg e]
      rcases List.mem_cons.1 hp with rfl | hp
      · exact absurd rfl e
      · exact ih (fun a ha b hb => h a (List.mem_cons_of_mem _ ha) b (List.mem_cons_of_mem _ hb)) p hp

theorem right_one {most : Nat} {last : Int} {ps : List (Int × Int)} (h : Chart.Right most last ps) : ∀ p ∈ ps, ∀ q ∈ ps, p.1 = q.1 → p = q := by
  intro p hp q hq e
  obtain ⟨i, hi, rfl⟩ := mem_el hp
  obtain ⟨j, hj, rfl⟩ := mem_el hq
  rw [h.one i j hi hj e]

/-- Of a chart that is right what is told is the kind of that number. -/
theorem kind_is {most : Nat} {last : Int} {ps : List (Int × Int)} {no r : Int} (h : Chart.Right most last ps) (k : Chart.IsKind most last ps no r) : r = kindOf ps no := by
  rcases k with ⟨_, i, hi, e, rfl⟩ | ⟨k, rfl⟩
  · rw [← e]; exact (kind_of_mem (right_one h) _ (el_mem hi)).symm
  · rcases k with k | k
    · exact absurd h k
    · refine (kind_none ps no fun p hp => ?_).symm
      obtain ⟨i, hi, rfl⟩ := mem_el hp
      exact k i hi

theorem kind_in {most : Nat} {last : Int} {ps : List (Int × Int)} (h : Chart.Right most last ps) (no : Int) : kindOf ps no = 0 ∨ (1 ≤ kindOf ps no ∧ kindOf ps no ≤ last ∧ 1 ≤ no ∧ no ≤ 1000) := by
  by_cases z : kindOf ps no = 0
  · exact .inl z
  · obtain ⟨i, hi, e⟩ := mem_el (kind_mem ps no z)
    obtain ⟨h1, h2, _⟩ := h.2 i hi
    rw [e] at h1 h2
    exact .inr ⟨h2.1, h2.2, h1.1, h1.2⟩

/-- A trade that is right by itself. -/
def TOne (t : T8) : Prop := NoOk t.1 ∧ NoOk t.2.1 ∧ NoOk t.2.2.1 ∧ NoOk t.2.2.2.1 ∧ NoOk t.2.2.2.2.2.1 ∧ t.2.1 ≠ t.2.2.1 ∧ (1 ≤ t.2.2.2.2.1 ∧ t.2.2.2.2.1 ≤ 1000000000000000) ∧ (0 ≤ t.2.2.2.2.2.2.1 ∧ t.2.2.2.2.2.2.1 ≤ 1000000000000000) ∧ (1 ≤ t.2.2.2.2.2.2.2 ∧ t.2.2.2.2.2.2.2 ≤ 3)
def TRowOk (ps : List T8) (i : Nat) : Prop := TOne (el8 ps i) ∧ (0 < i → (el8 ps (i - 1)).1 < (el8 ps i).1)
/-- Trades that are right. -/
def TRight (ps : List T8) : Prop := ps.length ≤ 30 ∧ ∀ i, i < ps.length → TRowOk ps i

/-- Books. -/
structure Bk where
  ac : List (Int × Int)
  ic : List (Int × Int)
  bs : List T3
  ls : List T5
  ts : List T8
  lot : Int

def Lists (b : Bk) : Prop := Chart.Right 20 4 b.ac ∧ Chart.Right 8 2 b.ic ∧ Bals.Right b.bs ∧ Lots.Right b.ls ∧ TRight b.ts ∧ (0 ≤ b.lot ∧ b.lot ≤ 1000000000)
def BalFit (b : Bk) (p : T3) : Prop := kindOf b.ac p.1 ≠ 0 ∧ kindOf b.ic p.2.1 ≠ 0 ∧ ¬ (kindOf b.ac p.1 = 1 ∧ p.2.2 < 0)
def BalsFit (b : Bk) : Prop := (∀ k, k < b.bs.length → BalFit b (el3 b.bs k)) ∧ ∀ i, sumI b.bs i = 0
def LotFit (b : Bk) (l : T5) : Prop := kindOf b.ac l.1 = 1 ∧ kindOf b.ic l.2.1 = 2 ∧ l.2.2.1 ≤ b.lot
def LotsFit (b : Bk) : Prop := (∀ k, k < b.ls.length → LotFit b (el5 b.ls k)) ∧ ∀ a i, kindOf b.ac a = 1 → kindOf b.ic i = 2 → qtyOf b.ls a i = val b.bs a i
def TradeFit (b : Bk) (t : T8) : Prop := kindOf b.ac t.2.1 = 1 ∧ kindOf b.ac t.2.2.1 = 1 ∧ kindOf b.ic t.2.2.2.1 = 2 ∧ kindOf b.ic t.2.2.2.2.2.1 = 1
def TradesFit (b : Bk) : Prop := ∀ k, k < b.ts.length → TradeFit b (el8 b.ts k)
/-- Books that are right. -/
def Ok (b : Bk) : Prop := Lists b ∧ BalsFit b ∧ LotsFit b ∧ TradesFit b

/-- The specification asks of each balance that its instrument comes to nothing. -/
theorem bals_spec {b : Bk} (h : ∀ k, k < b.bs.length → BalFit b (el3 b.bs k) ∧ sumI b.bs (el3 b.bs k).2.1 = 0) : BalsFit b :=
  ⟨fun k hk => (h k hk).1, Bals.even_of fun k hk => (h k hk).2⟩

/-- The program asks it of each instrument. -/
theorem bals_impl {b : Bk} (h : ∀ k, k < b.bs.length → BalFit b (el3 b.bs k)) (hs : ∀ k, k < b.ic.length → sumI b.bs (Chart.el b.ic k).1 = 0) : BalsFit b := by
  refine ⟨h, Bals.even_of fun k hk => ?_⟩
  obtain ⟨i, hi, e⟩ := mem_el (kind_mem b.ic _ (h k hk).2.1)
  have := hs i hi
  rw [e] at this
  exact this

/-- A sum that is told as nothing. -/
theorem sum_zero {bs : List T3} {i r : Int} {c : Bool} (hr : Bals.Right bs) (h : Bals.IsSum bs i r c) : (c = true ∧ r = 0) ↔ sumI bs i = 0 := by
  rcases h with ⟨_, h1, h2, h3⟩ | ⟨h1, h2, h3⟩
  · rw [← h2, h3]; simp
  · constructor
    · rintro ⟨e, _⟩; rw [h3] at e; cases e
    · intro e
      refine absurd ⟨hr, ?_⟩ h1
      rw [e]; unfold Bals.Amt; omega

/-- What the program's table holds: what the holders have of papers, less all lots. -/
def leftT (b : Bk) (a i : Int) : Int := (if kindOf b.ac a = 1 ∧ kindOf b.ic i = 2 then val b.bs a i else 0) - qtyOf b.ls a i

theorem lots_impl {b : Bk} (h : ∀ k, k < b.ls.length → LotFit b (el5 b.ls k)) : (∀ a i, leftT b a i = 0) ↔ LotsFit b := by
  constructor
  · intro hz
    refine ⟨h, fun a i ha hi => ?_⟩
    have := hz a i
    unfold leftT at this
    rw [if_pos ⟨ha, hi⟩] at this
    omega
  · intro hf a i
    unfold leftT
    by_cases e : kindOf b.ac a = 1 ∧ kindOf b.ic i = 2
    · rw [if_pos e, hf.2 a i e.1 e.2]; omega
    · rw [if_neg e]
      have : qtyOf b.ls a i = 0 := by
        refine (Lots.qty_none a i b.ls fun p hp hk => e ?_).1
        obtain ⟨k, hk1, hk2, rfl⟩ := Lots.mem_take (ps := b.ls) (k := b.ls.length) (p := p) (by rw [List.take_length]; exact hp)
        obtain ⟨f1, f2, _⟩ := h k hk2
        rw [hk.1] at f1
        rw [hk.2] at f2
        exact ⟨f1, f2⟩
      omega

/-- The specification goes through all accounts and instruments. -/
theorem lots_spec {b : Bk} (hA : Chart.Right 20 4 b.ac) (hI : Chart.Right 8 2 b.ic) (h : ∀ k, k < b.ls.length → LotFit b (el5 b.ls k)) : LotsFit b ↔ ∀ j, j < b.ac.length → ∀ k, k < b.ic.length → (Chart.el b.ac j).2 = 1 → (Chart.el b.ic k).2 = 2 → sumQ (ownL b.ls (Chart.el b.ac j).1 (Chart.el b.ic k).1) = val b.bs (Chart.el b.ac j).1 (Chart.el b.ic k).1 := by
  constructor
  · rintro ⟨_, hf⟩ j hj k hk e1 e2
    rw [(Takes.own_sums _ _ b.ls).1]
    exact hf _ _ (by rw [kind_of_mem (right_one hA) _ (el_mem hj)]; exact e1) (by rw [kind_of_mem (right_one hI) _ (el_mem hk)]; exact e2)
  · intro hf
    refine ⟨h, fun a i ha hi => ?_⟩
    obtain ⟨j, hj, ej⟩ := mem_el (kind_mem b.ac a (by omega))
    obtain ⟨k, hk, ek⟩ := mem_el (kind_mem b.ic i (by omega))
    have := hf j hj k hk (by rw [ej]; exact ha) (by rw [ek]; exact hi)
    rw [(Takes.own_sums _ _ b.ls).1, ej, ek] at this
    exact this

/-- What an account's telling makes of books. -/
def IsAcc (b : Bk) (no kind : Int) (b' : Bk) (c : Int) : Prop :=
  (kindOf b.ac no ≠ 0 ∧ b' = b ∧ c = 2) ∨
  (kindOf b.ac no = 0 ∧ ∃ qs ok, Chart.IsPut 20 4 b.ac (no, kind) qs ok ∧ ((ok = false ∧ b' = b ∧ c = 7) ∨ (ok = true ∧ b' = { b with ac := qs } ∧ c = 0)))
def IsIns (b : Bk) (no kind : Int) (b' : Bk) (c : Int) : Prop :=
  (kindOf b.ic no ≠ 0 ∧ b' = b ∧ c = 2) ∨
  (kindOf b.ic no = 0 ∧ ∃ qs ok, Chart.IsPut 8 2 b.ic (no, kind) qs ok ∧ ((ok = false ∧ b' = b ∧ c = 7) ∨ (ok = true ∧ b' = { b with ic := qs } ∧ c = 0)))

theorem IsAcc.same {b b1 b2 : Bk} {no kind c1 c2 : Int} (h : IsAcc b no kind b1 c1) (k : IsAcc b no kind b2 c2) : b1 = b2 ∧ c1 = c2 := by
  rcases h with ⟨h, rfl, rfl⟩ | ⟨h, qs, ok, hp, h'⟩ <;> rcases k with ⟨k, rfl, rfl⟩ | ⟨k, rs, ok', kp, k'⟩
  · exact ⟨rfl, rfl⟩
  · exact absurd k h
  · exact absurd h k
  · obtain ⟨rfl, rfl⟩ := hp.same kp
    rcases h' with ⟨h1, rfl, rfl⟩ | ⟨h1, rfl, rfl⟩ <;> rcases k' with ⟨k1, rfl, rfl⟩ | ⟨k1, rfl, rfl⟩
    · exact ⟨rfl, rfl⟩
    · rw [h1] at k1; cases k1
    · rw [h1] at k1; cases k1
    · exact ⟨rfl, rfl⟩
theorem IsIns.same {b b1 b2 : Bk} {no kind c1 c2 : Int} (h : IsIns b no kind b1 c1) (k : IsIns b no kind b2 c2) : b1 = b2 ∧ c1 = c2 := by
  rcases h with ⟨h, rfl, rfl⟩ | ⟨h, qs, ok, hp, h'⟩ <;> rcases k with ⟨k, rfl, rfl⟩ | ⟨k, rs, ok', kp, k'⟩
  · exact ⟨rfl, rfl⟩
  · exact absurd k h
  · exact absurd h k
  · obtain ⟨rfl, rfl⟩ := hp.same kp
    rcases h' with ⟨h1, rfl, rfl⟩ | ⟨h1, rfl, rfl⟩ <;> rcases k' with ⟨k1, rfl, rfl⟩ | ⟨k1, rfl, rfl⟩
    · exact ⟨rfl, rfl⟩
    · rw [h1] at k1; cases k1
    · rw [h1] at k1; cases k1
    · exact ⟨rfl, rfl⟩

/-- All accounts but holders. -/
def shortL : List (Int × Int) → List Int
  | [] => []
  | p :: r => (if p.2 = 1 then [] else [p.1]) ++ shortL r

theorem short_append : ∀ (ps qs : List (Int × Int)), shortL (ps ++ qs) = shortL ps ++ shortL qs
  | [], qs => rfl
  | p :: r, qs => by simp [shortL, short_append r qs]
theorem short_len : ∀ (ps : List (Int × Int)), (shortL ps).length ≤ ps.length
  | [] => Nat.le_refl _
  | p :: r => by
    have := short_len r
    unfold shortL
    split <;> simp <;> omega
theorem chart_take {ps : List (Int × Int)} {k : Nat} (h : k < ps.length) : ps.take (k + 1) = ps.take k ++ [Chart.el ps k] := by
  rw [List.take_succ_eq_append_getElem h]
  simp [Chart.el, List.getD, h]
theorem short_next {ps : List (Int × Int)} {k : Nat} (h : k < ps.length) : shortL (ps.take (k + 1)) = shortL (ps.take k) ++ (if (Chart.el ps k).2 = 1 then [] else [(Chart.el ps k).1]) := by
  rw [chart_take h, short_append]
  simp [shortL]

/-- What a posting makes of books. -/
def IsPosted (b : Bk) (legs : List T3) (b' : Bk) (c : Int) : Prop :=
  ∃ qs pc, Bals.IsPost b.bs legs (shortL b.ac) qs pc ∧ ((pc = 0 ∧ b' = { b with bs := qs } ∧ c = 0) ∨ (pc = 3 ∧ b' = b ∧ c = 5) ∨ (pc = 4 ∧ b' = b ∧ c = 8) ∨ (pc = 5 ∧ b' = b ∧ c = 7))

theorem IsPosted.same {b b1 b2 : Bk} {legs : List T3} {c1 c2 : Int} (h : IsPosted b legs b1 c1) (k : IsPosted b legs b2 c2) : b1 = b2 ∧ c1 = c2 := by
  obtain ⟨qs, pc, hp, h'⟩ := h
  obtain ⟨rs, pd, kp, k'⟩ := k
  obtain ⟨rfl, rfl⟩ := hp.same kp
  rcases h' with ⟨h1, rfl, rfl⟩ | ⟨h1, rfl, rfl⟩ | ⟨h1, rfl, rfl⟩ | ⟨h1, rfl, rfl⟩ <;> rcases k' with ⟨k1, rfl, rfl⟩ | ⟨k1, rfl, rfl⟩ | ⟨k1, rfl, rfl⟩ | ⟨k1, rfl, rfl⟩ <;> first | exact ⟨rfl, rfl⟩ | omega

/-- The code of legs that are formed and even is none of the first two. -/
theorem post_code {ps ls qs : List T3} {xs : List Int} {c : Int} (h : Bals.IsPost ps ls xs qs c) (hp : Bals.Right ps) (hf : Bals.Formed ls) (he : Bals.Even ls) (hx : xs.length ≤ 20) : c = 0 ∨ c = 3 ∨ c = 4 ∨ c = 5 := by
  rcases h with ⟨h, _⟩ | ⟨_, h, _⟩ | ⟨_, _, _, _, h⟩ | ⟨f, _, _, _, _, _, h⟩ | ⟨f, us, _, _, _, _, _, _, _, h⟩ | ⟨f, _, _, _, _, _, _, h⟩
  · exact absurd ⟨hp, hf, hx⟩ h
  · exact absurd he h
  · exact .inr (.inr (.inl h))
  · exact .inr (.inl h)
  · exact .inr (.inr (.inr h))
  · exact .inl h

/-- What the opening of a lot makes of books. -/
def opened (b : Bk) (a i q cost : Int) : T5 := (a, i, b.lot + 1, q, cost)
def CanOpen (b : Bk) (a i q cost : Int) : Prop := b.lot ≠ 1000000000 ∧ Lots.Right b.ls ∧ One (opened b a i q cost) ∧ Lots.Right (mergeL (b.ls.length + 1) b.ls [opened b a i q cost])
def IsOpen (b : Bk) (a i q cost : Int) (b' : Bk) (c : Int) : Prop :=
  (CanOpen b a i q cost ∧ b' = { b with ls := mergeL (b.ls.length + 1) b.ls [opened b a i q cost], lot := b.lot + 1 } ∧ c = 0) ∨ (¬ CanOpen b a i q cost ∧ b' = b ∧ c = 7)
theorem IsOpen.same {b b1 b2 : Bk} {a i q cost c1 c2 : Int} (h : IsOpen b a i q cost b1 c1) (k : IsOpen b a i q cost b2 c2) : b1 = b2 ∧ c1 = c2 := by
  rcases h with ⟨h, rfl, rfl⟩ | ⟨h, rfl, rfl⟩ <;> rcases k with ⟨k, rfl, rfl⟩ | ⟨k, rfl, rfl⟩
  · exact ⟨rfl, rfl⟩
  · exact absurd h k
  · exact absurd k h
  · exact ⟨rfl, rfl⟩

/-- What a taking out of lots makes of books. -/
def CanTake (b : Bk) (a i q way : Int) : Prop := Lots.Right b.ls ∧ (1 ≤ q ∧ q ≤ 1000000000000000) ∧ (1 ≤ way ∧ way ≤ 3) ∧ ¬ sumQ (ownL b.ls a i) < q
def takenL (b : Bk) (a i q way : Int) : List T5 := mergeL ((restL b.ls a i).length + (takeL way (ownL b.ls a i) q).length) (restL b.ls a i) (takeL way (ownL b.ls a i) q)
def IsTake (b : Bk) (a i q way : Int) (b' : Bk) (cost c : Int) : Prop :=
  (CanTake b a i q way ∧ b' = { b with ls := takenL b a i q way } ∧ cost = takeC way (ownL b.ls a i) q ∧ c = 0) ∨ (¬ CanTake b a i q way ∧ b' = b ∧ cost = 0 ∧ c = 5)
theorem IsTake.same {b b1 b2 : Bk} {a i q way k1 k2 c1 c2 : Int} (h : IsTake b a i q way b1 k1 c1) (k : IsTake b a i q way b2 k2 c2) : b1 = b2 ∧ k1 = k2 ∧ c1 = c2 := by
  rcases h with ⟨h, rfl, rfl, rfl⟩ | ⟨h, rfl, rfl, rfl⟩ <;> rcases k with ⟨k, rfl, rfl, rfl⟩ | ⟨k, rfl, rfl, rfl⟩
  · exact ⟨rfl, rfl, rfl⟩
  · exact absurd h k
  · exact absurd k h
  · exact ⟨rfl, rfl, rfl⟩

/-- The legs of what one gives to another one. -/
def pairL (a c i q : Int) : List T3 := [(a, i, -q), (c, i, q)]
theorem pair_formed {a c i q : Int} (ha : NoOk a) (hc : NoOk c) (hi : NoOk i) (q1 : 1 ≤ q) (q2 : q ≤ 1000000000000000) : Bals.Formed (pairL a c i q) := by
  refine ⟨by simp [pairL], fun k hk => ?_⟩
  have : k = 0 ∨ k = 1 := by simp [pairL] at hk; omega
  rcases this with rfl | rfl
  · exact ⟨ha, hi, by unfold Bals.Amt; simp [pairL]; omega⟩
  · exact ⟨hc, hi, by unfold Bals.Amt; simp [pairL]; omega⟩
theorem pair_even (a c i q : Int) : Bals.Even (pairL a c i q) := by
  intro j
  show (if i = j then -q else 0) + ((if i = j then q else 0) + 0) = 0
  split <;> omega

/-- What an issue makes of books. -/
def IsIssue (b : Bk) (x y i q cost : Int) (b' : Bk) (c : Int) : Prop :=
  ((kindOf b.ac x = 0 ∨ kindOf b.ac y = 0 ∨ kindOf b.ic i = 0) ∧ b' = b ∧ c = 3) ∨
  (¬ (kindOf b.ac x = 0 ∨ kindOf b.ac y = 0 ∨ kindOf b.ic i = 0) ∧ (kindOf b.ac x ≠ 2 ∨ kindOf b.ac y ≠ 1 ∨ (cost ≠ 0 ∧ kindOf b.ic i = 1)) ∧ b' = b ∧ c = 4) ∨
  (¬ (kindOf b.ac x = 0 ∨ kindOf b.ac y = 0 ∨ kindOf b.ic i = 0) ∧ ¬ (kindOf b.ac x ≠ 2 ∨ kindOf b.ac y ≠ 1 ∨ (cost ≠ 0 ∧ kindOf b.ic i = 1)) ∧ ∃ b1 c1, IsPosted b (pairL x y i q) b1 c1 ∧
    ((c1 ≠ 0 ∧ b' = b ∧ c = c1) ∨ (c1 = 0 ∧ kindOf b.ic i = 1 ∧ b' = b1 ∧ c = 0) ∨
     (c1 = 0 ∧ kindOf b.ic i ≠ 1 ∧ ∃ b2 c2, IsOpen b1 y i q cost b2 c2 ∧ ((c2 ≠ 0 ∧ b' = b ∧ c = c2) ∨ (c2 = 0 ∧ b' = b2 ∧ c = 0)))))

theorem IsIssue.same {b b1 b2 : Bk} {x y i q cost c1 c2 : Int} (h : IsIssue b x y i q cost b1 c1) (k : IsIssue b x y i q cost b2 c2) : b1 = b2 ∧ c1 = c2 := by
  rcases h with ⟨h, rfl, rfl⟩ | ⟨h, h2, rfl, rfl⟩ | ⟨h, h2, d1, e1, hp, h'⟩ <;> rcases k with ⟨k, rfl, rfl⟩ | ⟨k, k2, rfl, rfl⟩ | ⟨k, k2, d2, e2, kp, k'⟩
  · exact ⟨rfl, rfl⟩
  · exact absurd h k
  · exact absurd h k
  · exact absurd k h
  · exact ⟨rfl, rfl⟩
  · exact absurd h2 k2
  · exact absurd k h
  · exact absurd k2 h2
  · obtain ⟨rfl, rfl⟩ := hp.same kp
    rcases h' with ⟨h1, rfl, rfl⟩ | ⟨h1, h3, rfl, rfl⟩ | ⟨h1, h3, f1, g1, ho, h4⟩ <;> rcases k' with ⟨k1, rfl, rfl⟩ | ⟨k1, k3, rfl, rfl⟩ | ⟨k1, k3, f2, g2, ko, k4⟩
    · exact ⟨rfl, rfl⟩
    · exact absurd k1 h1
    · exact absurd k1 h1
    · exact absurd h1 k1
    · exact ⟨rfl, rfl⟩
    · exact absurd h3 k3
    · exact absurd h1 k1
    · exact absurd k3 h3
    · obtain ⟨rfl, rfl⟩ := ho.same ko
      rcases h4 with ⟨h5, rfl, rfl⟩ | ⟨h5, rfl, rfl⟩ <;> rcases k4 with ⟨k5, rfl, rfl⟩ | ⟨k5, rfl, rfl⟩ <;> first | exact ⟨rfl, rfl⟩ | exact absurd k5 h5 | exact absurd h5 k5

/-- What a move makes of books. -/
def IsMove (b : Bk) (x y i q way : Int) (b' : Bk) (cost c : Int) : Prop :=
  ((kindOf b.ac x = 0 ∨ kindOf b.ac y = 0 ∨ kindOf b.ic i = 0) ∧ b' = b ∧ cost = 0 ∧ c = 3) ∨
  (¬ (kindOf b.ac x = 0 ∨ kindOf b.ac y = 0 ∨ kindOf b.ic i = 0) ∧ (kindOf b.ac x ≠ 1 ∨ kindOf b.ac y ≠ 1 ∨ x = y) ∧ b' = b ∧ cost = 0 ∧ c = 4) ∨
  (¬ (kindOf b.ac x = 0 ∨ kindOf b.ac y = 0 ∨ kindOf b.ic i = 0) ∧ ¬ (kindOf b.ac x ≠ 1 ∨ kindOf b.ac y ≠ 1 ∨ x = y) ∧ ∃ b1 c1, IsPosted b (pairL x y i q) b1 c1 ∧
    ((c1 ≠ 0 ∧ b' = b ∧ cost = 0 ∧ c = c1) ∨ (c1 = 0 ∧ kindOf b.ic i = 1 ∧ b' = b1 ∧ cost = 0 ∧ c = 0) ∨
     (c1 = 0 ∧ kindOf b.ic i ≠ 1 ∧ ∃ b2 k2 c2, IsTake b1 x i q way b2 k2 c2 ∧ ((c2 ≠ 0 ∧ b' = b ∧ cost = 0 ∧ c = c2) ∨
       (c2 = 0 ∧ ∃ b3 c3, IsOpen b2 y i q k2 b3 c3 ∧ ((c3 ≠ 0 ∧ b' = b ∧ cost = 0 ∧ c = c3) ∨ (c3 = 0 ∧ b' = b3 ∧ cost = k2 ∧ c = 0)))))))

theorem IsMove.same {b b1 b2 : Bk} {x y i q way s1 s2 c1 c2 : Int} (h : IsMove b x y i q way b1 s1 c1) (k : IsMove b x y i q way b2 s2 c2) : b1 = b2 ∧ s1 = s2 ∧ c1 = c2 := by
  rcases h with ⟨h, rfl, rfl, rfl⟩ | ⟨h, h2, rfl, rfl, rfl⟩ | ⟨h, h2, d1, e1, hp, h'⟩ <;> rcases k with ⟨k, rfl, rfl, rfl⟩ | ⟨k, k2, rfl, rfl, rfl⟩ | ⟨k, k2, d2, e2, kp, k'⟩
  · exact ⟨rfl, rfl, rfl⟩
  · exact absurd h k
  · exact absurd h k
  · exact absurd k h
  · exact ⟨rfl, rfl, rfl⟩
  · exact absurd h2 k2
  · exact absurd k h
  · exact absurd k2 h2
  · obtain ⟨rfl, rfl⟩ := hp.same kp
    rcases h' with ⟨h1, rfl, rfl, rfl⟩ | ⟨h1, h3, rfl, rfl, rfl⟩ | ⟨h1, h3, f1, t1, g1, ho, h4⟩ <;> rcases k' with ⟨k1, rfl, rfl, rfl⟩ | ⟨k1, k3, rfl, rfl, rfl⟩ | ⟨k1, k3, f2, t2, g2, ko, k4⟩
    · exact ⟨rfl, rfl, rfl⟩
    · exact absurd k1 h1
    · exact absurd k1 h1
    · exact absurd h1 k1
    · exact ⟨rfl, rfl, rfl⟩
    · exact absurd h3 k3
    · exact absurd h1 k1
    · exact absurd k3 h3
    · obtain ⟨rfl, rfl, rfl⟩ := ho.same ko
      rcases h4 with ⟨h5, rfl, rfl, rfl⟩ | ⟨h5, f3, g3, hq, h6⟩ <;> rcases k4 with ⟨k5, rfl, rfl, rfl⟩ | ⟨k5, f4, g4, kq, k6⟩
      · exact ⟨rfl, rfl, rfl⟩
      · exact absurd k5 h5
      · exact absurd h5 k5
      · obtain ⟨rfl, rfl⟩ := hq.same kq
        rcases h6 with ⟨h7, rfl, rfl, rfl⟩ | ⟨h7, rfl, rfl, rfl⟩ <;> rcases k6 with ⟨k7, rfl, rfl, rfl⟩ | ⟨k7, rfl, rfl, rfl⟩ <;> first | exact ⟨rfl, rfl, rfl⟩ | exact absurd k7 h7 | exact absurd h7 k7

end Go.Proofs.Ytophnnmbgpinfaa.Bks
