/- Contracts of the weights: the model's sum and its WeightsOk, the program's sum of weights and its WeightsOk. Conditions: a list of at most 2^20 numbers. -/
import Derived.Test.YtdnpjjbphamcmaaInts
import Derived.Test.YtdnpjjbphamcmaaSmall
namespace Go.Proofs.Ytdnpjjbphamcmaa.Weigh
open Go.ChangeShapes Go.WideShapes Go.ChangeAt Go.RowKit Ints Small
set_option linter.unusedVariables false

/-- The first k numbers together. -/
def S (xs : List Int) : Nat → Int
  | 0 => 0
  | k + 1 => S xs k + xs.getD k 0

/-- A weight. -/
def Wt (x : Int) : Prop := 0 ≤ x ∧ x ≤ 1000000000000000

/-- Weights as the document wants them. -/
def Good (xs : List Int) : Prop :=
  (1 ≤ xs.length ∧ xs.length ≤ 40) ∧ (∀ i, i < xs.length → Wt (xs.getD i 0)) ∧ 1 ≤ S xs xs.length ∧ S xs xs.length ≤ 1000000000000000

theorem S_nonneg (xs : List Int) (n : Nat) (h : ∀ i, i < n → Wt (xs.getD i 0)) : 0 ≤ S xs n := by
  induction n with
  | zero => exact Int.le_refl _
  | succ n ih =>
    have := ih (fun i hi => h i (by omega))
    have := (h n (by omega)).1
    show 0 ≤ S xs n + xs.getD n 0
    omega

theorem S_le (xs : List Int) (n : Nat) (h : ∀ i, i < n → Wt (xs.getD i 0)) : S xs n ≤ 1000000000000000 * (n : Int) := by
  induction n with
  | zero => simp [S]
  | succ n ih =>
    have := ih (fun i hi => h i (by omega))
    have := (h n (by omega)).2
    show S xs n + xs.getD n 0 ≤ _
    omega

theorem S_mono (xs : List Int) (k n : Nat) (hk : k ≤ n) (h : ∀ i, i < n → Wt (xs.getD i 0)) : S xs k ≤ S xs n := by
  induction n with
  | zero => obtain rfl : k = 0 := by omega
            exact Int.le_refl _
  | succ n ih =>
    by_cases e : k = n + 1
    · subst e; exact Int.le_refl _
    · have := ih (by omega) (fun i hi => h i (by omega))
      have := (h n (by omega)).1
      show _ ≤ S xs n + xs.getD n 0
      omega

/-- One weight is not above all of them. -/
theorem S_one (xs : List Int) (i n : Nat) (hi : i < n) (h : ∀ i, i < n → Wt (xs.getD i 0)) : xs.getD i 0 ≤ S xs n := by
  have := S_mono xs (i + 1) n (by omega) h
  have := S_nonneg xs i (fun j hj => h j (by omega))
  have e : S xs (i + 1) = S xs i + xs.getD i 0 := rfl
  omega

set_option maxRecDepth 100000 in
theorem sAll (w : World) (g n cap : Nat) (xs : List Int) (hl : xs.length = n) (h40 : n ≤ 40) (hx : ∀ i, i < n → Wt (xs.getD i 0)) (h : At w g xs) :
    Calls Try.prog 81 #[.slice (some ⟨g, 0, none⟩) n cap] w fun e w' => e = .returned (.int .i64 (S xs n)) ∧ w' = w := by
  go_enter Try.func81, Try.ntmps81
  go_wp2
  go_loop [3, 4] (fun s i => ∃ (k : Nat), k ≤ n ∧ i = .int .i64 k ∧ s = .int .i64 (S xs k)) (fun _ i => n - (intOf i).toNat)
  case atStart => exact ⟨0, by omega, rfl, rfl⟩
  case round =>
    obtain ⟨k, hk, rfl, rfl⟩ := hrel
    by_cases t : k < n
    · have e1 := h k (by omega)
      have s0 := S_nonneg xs k (fun i hi => hx i (by omega))
      have s1 := S_le xs k (fun i hi => hx i (by omega))
      obtain ⟨x0, x1⟩ := hx k t
      have E := hide (show S xs (k + 1) = S xs k + xs.getD k 0 from rfl)
      clear h hx
      generalize xs.getD k 0 = z at *
      generalize S xs k = s at *
      go_wp2
      go_round
      case rel => exact ⟨k + 1, by omega, by go_num, by rw [unhide E]⟩
      case measure => simp [intOf]; omega
    · obtain rfl : k = n := by omega
      clear h hx
      go_wp2
      go_ret
      exact ⟨rfl, rfl⟩

/-- Between two numbers. -/
theorem sIn (x lo hi : Int) (b : Bool) (w : World) (hb : Hid (b = true ↔ lo ≤ x ∧ x ≤ hi)) :
    Calls Try.prog 49 #[.int .i64 x, .int .i64 lo, .int .i64 hi] w fun e w' => e = .returned (.bool b) ∧ w' = w := by
  cases b
  · have H := hide (show lo ≤ x → ¬ x ≤ hi from fun h1 h2 => Bool.noConfusion ((unhide hb).2 ⟨h1, h2⟩))
    clear hb
    by_cases h1 : lo ≤ x
    · have h2 := (unhide H) h1
      clear H
      go_enter Try.func49, Try.ntmps49
      go_wp2
      go_ret
      exact ⟨rfl, rfl⟩
    · clear H
      go_enter Try.func49, Try.ntmps49
      go_wp2
      go_ret
      exact ⟨rfl, rfl⟩
  · obtain ⟨h1, h2⟩ := (unhide hb).1 rfl
    clear hb
    go_enter Try.func49, Try.ntmps49
    go_wp2
    go_ret
    exact ⟨rfl, rfl⟩

/-- An amount from a number on. -/
theorem sSome (x lo : Int) (b : Bool) (w : World) (hb : Hid (b = true ↔ lo ≤ x ∧ x ≤ 1000000000000000)) :
    Calls Try.prog 32 #[.int .i64 x, .int .i64 lo] w fun e w' => e = .returned (.bool b) ∧ w' = w := by
  go_enter Try.func32, Try.ntmps32
  go_wp2_with fail
  refine (sIn x lo 1000000000000000 b _ hb).mono ?_
  rintro e w' ⟨rfl, rfl⟩
  go_wp2
  go_ret
  exact ⟨rfl, rfl⟩

set_option maxRecDepth 100000 in
set_option maxHeartbeats 800000 in
theorem sWeights (w : World) (g n cap : Nat) (xs : List Int) (ok : Bool) (hl : xs.length = n) (h20 : n ≤ 1048576) (h : At w g xs) (hok : Hid (ok = true ↔ Good xs)) :
    Calls Try.prog 64 #[.slice (some ⟨g, 0, none⟩) n cap] w fun e w' => e = .returned (.bool ok) ∧ w' = w := by
  by_cases nn : (1 : Int) ≤ (n : Int) ∧ (n : Int) ≤ 40
  · have NN := hide nn
    clear nn
    go_enter Try.func64, Try.ntmps64
    go_wp2_with fail
    refine (sIn n 1 40 true _ (hide ⟨fun _ => unhide NN, fun _ => rfl⟩)).mono ?_
    rintro e w' ⟨rfl, rfl⟩
    go_wp2
    go_loop [3] (fun i => ∃ (k : Nat), k ≤ n ∧ i = .int .i64 k ∧ Hid (∀ i, i < k → Wt (xs.getD i 0))) (fun i => n - (intOf i).toNat)
    case atStart => exact ⟨0, by omega, rfl, hide (fun i hi => absurd hi (by omega))⟩
    case round =>
      obtain ⟨k, hk, rfl, HG⟩ := hrel
      by_cases t : k < n
      · have e1 := h k (by omega)
        clear h
        have K := hide (show Wt (xs.getD k 0) → ∀ i, i < k + 1 → Wt (xs.getD i 0) from fun hw i hi => by
          by_cases e : i = k
          · subst e; exact hw
          · exact unhide HG i (by omega))
        have F := hide (show ¬ Wt (xs.getD k 0) → ok = false from fun hw => by
          cases hh : ok
          · rfl
          · exact absurd (((unhide hok).1 hh).2.1 k (by omega)) hw)
        clear hok
        generalize xs.getD k 0 = z at *
        by_cases z0 : Wt z
        · have Z := hide z0
          clear z0
          go_wp2_with fail
          refine (sSome z 0 true _ (hide ⟨fun _ => unhide Z, fun _ => rfl⟩)).mono ?_
          rintro e w' ⟨rfl, rfl⟩
          go_wp2
          go_round
          case rel => exact ⟨k + 1, by omega, by go_num, hide ((unhide K) (unhide Z))⟩
          case measure => simp [intOf]; omega
        · have Z := hide z0
          clear z0
          go_wp2_with fail
          refine (sSome z 0 false _ (hide ⟨fun h => Bool.noConfusion h, fun h => absurd h (unhide Z)⟩)).mono ?_
          rintro e w' ⟨rfl, rfl⟩
          go_wp2
          go_ret
          exact ⟨by rw [(unhide F) (unhide Z)]; rfl, rfl⟩
      · obtain rfl : k = n := by omega
        have c := sAll _ g k cap xs hl (by have := unhide NN; omega) (unhide HG) h
        have F := hide (show ok = true ↔ (1 ≤ S xs k ∧ S xs k ≤ 1000000000000000) from by
          rw [unhide hok]; unfold Good; rw [hl]
          have := unhide NN
          exact ⟨fun hh => hh.2.2, fun hh => ⟨⟨by omega, by omega⟩, unhide HG, hh⟩⟩)
        clear h hok HG
        generalize S xs k = s at *
        go_wp2_with fail
        refine c.mono ?_
        rintro e w' ⟨rfl, rfl⟩
        go_wp2_with fail
        refine (sSome s 1 ok _ F).mono ?_
        rintro e w' ⟨rfl, rfl⟩
        go_wp2
        go_ret
        exact ⟨rfl, rfl⟩
  · have F : Hid (ok = false) := by
      refine hide ?_
      cases hh : ok
      · rfl
      · have := ((unhide hok).1 hh).1; omega
    have NN := hide nn
    clear nn
    clear h hok
    go_enter Try.func64, Try.ntmps64
    go_wp2_with fail
    refine (sIn n 1 40 false _ (hide ⟨fun h => Bool.noConfusion h, fun h => absurd h (unhide NN)⟩)).mono ?_
    rintro e w' ⟨rfl, rfl⟩
    go_wp2
    go_ret
    exact ⟨by rw [unhide F]; rfl, rfl⟩

/-- What weightSum tells. -/
def SumTells (xs : List Int) (s : Int) (ok : Bool) : Prop := (Good xs ∧ s = S xs xs.length ∧ ok = true) ∨ (¬ Good xs ∧ s = 0 ∧ ok = false)

theorem SumTells.bad {xs : List Int} {s : Int} {ok : Bool} (h : SumTells xs s ok) (hb : ¬ Good xs) : s = 0 ∧ ok = false := by
  rcases h with h | h
  · exact absurd h.1 hb
  · exact h.2

set_option maxRecDepth 100000 in
set_option maxHeartbeats 800000 in
theorem iSum (w : World) (g n cap : Nat) (xs : List Int) (s : Int) (ok : Bool) (hl : xs.length = n) (h20 : n ≤ 1048576) (h : At w g xs) (hok : Hid (SumTells xs s ok)) :
    Calls Try.prog 90 #[.slice (some ⟨g, 0, none⟩) n cap] w fun e w' => e = .returned (.tuple #[.int .i64 s, .bool ok]) ∧ w' = w := by
  by_cases n2 : (n : Int) ≤ 40
  · go_enter Try.func90, Try.ntmps90
    go_wp2
    go_loop [4, 14] (fun s i => ∃ (k : Nat), k ≤ n ∧ i = .int .i64 k ∧ s = .int .i64 (S xs k) ∧ S xs k ≤ 1000000000000000 ∧ Hid (∀ i, i < k → Wt (xs.getD i 0))) (fun _ i => n - (intOf i).toNat)
    case atStart => exact ⟨0, by omega, rfl, rfl, by simp [S], hide (fun i hi => absurd hi (by omega))⟩
    case round =>
      obtain ⟨k, hk, rfl, rfl, s1, HG⟩ := hrel
      have s0 := S_nonneg xs k (unhide HG)
      by_cases t : k < n
      · have e1 := h k (by omega)
        clear h
        have K := hide (show Wt (xs.getD k 0) → ∀ i, i < k + 1 → Wt (xs.getD i 0) from fun hw i hi => by
          by_cases e : i = k
          · subst e; exact hw
          · exact unhide HG i (by omega))
        have F := hide (show ¬ Wt (xs.getD k 0) → s = 0 ∧ ok = false from fun hw => (unhide hok).bad fun hg => hw (hg.2.1 k (by omega)))
        have F2 := hide (show ¬ S xs k + xs.getD k 0 ≤ 1000000000000000 → s = 0 ∧ ok = false from fun hw => (unhide hok).bad fun hg => hw (by
          have := S_mono xs (k + 1) n (by omega) (fun i hi => hg.2.1 i (by omega))
          have e : S xs (k + 1) = S xs k + xs.getD k 0 := rfl
          have := hg.2.2.2
          rw [hl] at this
          omega))
        have E := hide (show S xs (k + 1) = S xs k + xs.getD k 0 from rfl)
        clear hok
        generalize xs.getD k 0 = z at *
        generalize S xs k = u at *
        by_cases z0 : 0 ≤ z
        · by_cases z1 : z ≤ 1000000000000000
          · by_cases z2 : u + z ≤ 1000000000000000
            · have c := iAdd_yes u z w (by unfold Amt; omega) (by unfold Amt; omega) (by unfold Amt; omega)
              go_wp2_with (go_at_call 98; refine c.mono ?_; rintro e w' ⟨rfl, rfl⟩)
              go_round
              case rel => exact ⟨k + 1, by omega, by go_num, by rw [unhide E], by rw [unhide E]; omega, hide ((unhide K) ⟨by omega, by omega⟩)⟩
              case measure => simp [intOf]; omega
            · have c := iAdd_no u z w (by unfold Bad Amt NoAmt; omega)
              go_wp2_with (go_at_call 98; refine c.mono ?_; rintro e w' ⟨rfl, rfl⟩)
              go_ret2
              obtain ⟨a1, a2⟩ := (unhide F2) (by omega)
              exact ⟨by rw [a1, a2]; rfl, rfl⟩
          · have c := iAdd_no u z w (by unfold Bad Amt NoAmt; omega)
            go_wp2_with (go_at_call 98; refine c.mono ?_; rintro e w' ⟨rfl, rfl⟩)
            go_ret2
            obtain ⟨a1, a2⟩ := (unhide F) (fun hw => by have := hw.1; have := hw.2; omega)
            exact ⟨by rw [a1, a2]; rfl, rfl⟩
        · by_cases z3 : -1000000000000000 ≤ z
          · have c := iAdd_yes u z w (by unfold Amt; omega) (by unfold Amt; omega) (by unfold Amt; omega)
            go_wp2_with (go_at_call 98; refine c.mono ?_; rintro e w' ⟨rfl, rfl⟩)
            go_ret2
            obtain ⟨a1, a2⟩ := (unhide F) (fun hw => by have := hw.1; have := hw.2; omega)
            exact ⟨by rw [a1, a2]; rfl, rfl⟩
          · have c := iAdd_no u z w (by unfold Bad Amt NoAmt; omega)
            go_wp2_with (go_at_call 98; refine c.mono ?_; rintro e w' ⟨rfl, rfl⟩)
            go_ret2
            obtain ⟨a1, a2⟩ := (unhide F) (fun hw => by have := hw.1; have := hw.2; omega)
            exact ⟨by rw [a1, a2]; rfl, rfl⟩
      · obtain rfl : k = n := by omega
        have F1 := hide (show 0 < S xs k → s = S xs k ∧ ok = true from fun hp => by
          have hg : Good xs := by
            refine ⟨⟨?_, by omega⟩, by rw [hl]; exact unhide HG, by rw [hl]; omega, by rw [hl]; exact s1⟩
            rw [hl]
            cases k with
            | zero => exact absurd hp (by simp [S])
            | succ k => omega
          rcases unhide hok with q | q
          · rw [hl] at q; exact q.2
          · exact absurd hg q.1)
        have F2 := hide (show ¬ 0 < S xs k → s = S xs k ∧ ok = false from fun hp => by
          have hg : ¬ Good xs := fun hg => hp (by have := hg.2.2.1; rw [hl] at this; omega)
          have q := (unhide hok).bad hg
          exact ⟨by omega, q.2⟩)
        clear h hok HG
        generalize S xs k = u at *
        by_cases p : 0 < u
        · go_wp2
          go_ret2
          obtain ⟨a1, a2⟩ := (unhide F1) (by omega)
          exact ⟨by rw [a1, a2]; rfl, rfl⟩
        · go_wp2
          go_ret2
          obtain ⟨a1, a2⟩ := (unhide F2) (by omega)
          exact ⟨by rw [a1, a2]; rfl, rfl⟩
  · have F := hide ((unhide hok).bad (fun hg => by have := hg.1.2; omega))
    clear h hok
    go_enter Try.func90, Try.ntmps90
    go_wp2
    go_ret2
    exact ⟨by rw [(unhide F).1, (unhide F).2]; rfl, rfl⟩

theorem tells_of {xs : List Int} {ok : Bool} (h : ok = true ↔ Good xs) : SumTells xs (if ok then S xs xs.length else 0) ok := by
  cases ok
  · exact Or.inr ⟨fun g => Bool.noConfusion (h.2 g), rfl, rfl⟩
  · exact Or.inl ⟨h.1 rfl, rfl, rfl⟩

theorem good_or (xs : List Int) : ∃ ok : Bool, ok = true ↔ Good xs := by
  by_cases h : Good xs
  · exact ⟨true, fun _ => h, fun _ => rfl⟩
  · exact ⟨false, fun k => Bool.noConfusion k, fun k => absurd k h⟩

end Go.Proofs.Ytdnpjjbphamcmaa.Weigh
