/- Contracts of ShareQuota, the model's and the program's: quotient and rest of total, one weight and all weights together where all is as the document wants it, zeros and false at all else. Conditions: a list of at most 2^20 numbers. -/
import Derived.Test.YtdnpjjbphamcmaaWeigh
import Derived.Test.YtdnpjjbphamcmaaMul5
import Derived.Deep.QuietTactic
namespace Go.Proofs.Ytdnpjjbphamcmaa.Quota
open Go.ChangeShapes Go.WideShapes Go.ChangeAt Go.RowKit Ints Small Weigh MulC
set_option linter.unusedVariables false

/-- The whole share of weight i. -/
def Q (t : Int) (xs : List Int) (i : Nat) : Int := t * xs.getD i 0 / S xs xs.length
/-- What is left over of weight i. -/
def R (t : Int) (xs : List Int) (i : Nat) : Int := t * xs.getD i 0 % S xs xs.length

/-- A total that is an amount from 0 on. -/
def Tot (t : Int) : Prop := 0 ≤ t ∧ t ≤ 1000000000000000

theorem Q_le (t : Int) (xs : List Int) (i : Nat) (ht : Tot t) (hg : Weigh.Good xs) (hi : i < xs.length) : 0 ≤ Q t xs i ∧ Q t xs i ≤ t := by
  obtain ⟨_, hw, hs, _⟩ := hg
  have h1 := S_one xs i xs.length hi hw
  have h0 := (hw i hi).1
  unfold Q
  generalize xs.getD i 0 = x at *
  generalize S xs xs.length = s at *
  refine ⟨Int.ediv_nonneg (Int.mul_nonneg ht.1 h0) (by omega), ?_⟩
  have : t * x ≤ t * s := Int.mul_le_mul_of_nonneg_left h1 ht.1
  have := Int.ediv_le_ediv (by omega : 0 < s) this
  rwa [Int.mul_ediv_cancel _ (by omega)] at this

theorem R_lt (t : Int) (xs : List Int) (i : Nat) (hg : Weigh.Good xs) : 0 ≤ R t xs i ∧ R t xs i < S xs xs.length := by
  have := hg.2.2.1
  exact ⟨Int.emod_nonneg _ (by omega), Int.emod_lt_of_pos _ (by omega)⟩

theorem tells (t : Int) (xs : List Int) (i : Nat) (ht : Tot t) (hg : Weigh.Good xs) (hi : i < xs.length) : Tells t (xs.getD i 0) (S xs xs.length) (Q t xs i) (R t xs i) true := by
  refine Or.inl ⟨?_, rfl, rfl, rfl⟩
  have := Q_le t xs i ht hg hi
  have := ht.2
  show Q t xs i ≤ _
  omega

/-- What ShareQuota tells. -/
def QTells (t : Int) (xs : List Int) (i q r : Int) (ok : Bool) : Prop :=
  (Weigh.Good xs ∧ Tot t ∧ (0 ≤ i ∧ i < xs.length) ∧ q = Q t xs i.toNat ∧ r = R t xs i.toNat ∧ ok = true) ∨ (¬ (Weigh.Good xs ∧ Tot t ∧ 0 ≤ i ∧ i < xs.length) ∧ q = 0 ∧ r = 0 ∧ ok = false)

theorem QTells.bad {t i q r : Int} {xs : List Int} {ok : Bool} (h : QTells t xs i q r ok) (hb : ¬ (Weigh.Good xs ∧ Tot t ∧ 0 ≤ i ∧ i < xs.length)) : q = 0 ∧ r = 0 ∧ ok = false := by
  rcases h with h | h
  · exact absurd ⟨h.1, h.2.1, h.2.2.1⟩ hb
  · exact h.2

theorem QTells.fine {t q r : Int} {i : Nat} {xs : List Int} {ok : Bool} (h : QTells t xs i q r ok) (hg : Weigh.Good xs) (ht : Tot t) (hi : i < xs.length) : q = Q t xs i ∧ r = R t xs i ∧ ok = true := by
  rcases h with h | h
  · simpa using h.2.2.2
  · exact absurd ⟨hg, ht, by omega, by omega⟩ h.1

theorem quota_or (t i : Int) (xs : List Int) : ∃ q r ok, QTells t xs i q r ok := by
  by_cases h : Weigh.Good xs ∧ Tot t ∧ 0 ≤ i ∧ i < xs.length
  · exact ⟨_, _, _, Or.inl ⟨h.1, h.2.1, h.2.2, rfl, rfl, rfl⟩⟩
  · exact ⟨_, _, _, Or.inr ⟨h, rfl, rfl, rfl⟩⟩

set_option maxRecDepth 100000 in
set_option maxHeartbeats 800000 in
theorem sQuota (w : World) (t i q r : Int) (ok : Bool) (g n cap : Nat) (xs : List Int) (hl : xs.length = n) (h20 : n ≤ 1048576) (h : At w g xs) (hq : Hid (QTells t xs i q r ok)) :
    Calls Try.prog 65 #[.int .i64 t, .slice (some ⟨g, 0, none⟩) n cap, .int .i64 i] w fun e w' => e = .returned (.tuple #[.int .i64 q, .int .i64 r, .bool ok]) ∧ ∃ m, w' = w.drewN m := by
  by_cases hg : Weigh.Good xs
  · have c1 := sWeights w g n cap xs true hl h20 h (hide ⟨fun _ => hg, fun _ => rfl⟩)
    have HG := hide hg
    have n1 : 1 ≤ n := by have := hg.1.1; omega
    have n40 : n ≤ 40 := by have := hg.1.2; omega
    clear hg
    by_cases ht : Tot t
    · have HT := hide ht
      clear ht
      by_cases hi : 0 ≤ i ∧ i ≤ (n : Int) - 1
      · obtain ⟨k, rfl⟩ := Int.eq_ofNat_of_zero_le hi.1
        have hk : (k : Int) < (n : Int) := by omega
        have e1 := h k (by omega)
        obtain ⟨x0, x1⟩ := (unhide HG).2.1 k (by omega)
        have s1 := (unhide HG).2.2
        obtain ⟨t0, t1⟩ := unhide HT
        have F := hide ((unhide hq).fine (unhide HG) (unhide HT) (by omega))
        have c2 := fun W => sMD t (xs.getD k 0) (S xs xs.length) (Q t xs k) (R t xs k) true W t0 t1 x0 x1 s1.1 s1.2 (hide (tells t xs k (unhide HT) (unhide HG) (by omega)))
        have c3 := fun m => sAll (w.drewN m) g n cap xs hl n40 (fun i hi => (unhide HG).2.1 i (by omega)) h
        rw [hl] at c2 s1
        have HI := hide hi
        clear hq h hi
        generalize xs.getD k 0 = x at *
        generalize Q t xs k = qq at *
        generalize R t xs k = rr at *
        generalize S xs n = s at *
        go_enter Try.func65, Try.ntmps65
        go_wp2_with fail
        refine c1.mono ?_
        rintro e w' ⟨rfl, rfl⟩
        go_wp2_with fail
        refine (sSome t 0 true _ (hide ⟨fun _ => unhide HT, fun _ => rfl⟩)).mono ?_
        rintro e w' ⟨rfl, rfl⟩
        go_wp2_with fail
        refine (sIn k 0 (n - 1) true _ (hide ⟨fun _ => unhide HI, fun _ => rfl⟩)).mono ?_
        rintro e w' ⟨rfl, rfl⟩
        go_wp2_with fail
        go_quiet (first | (go_at_call 81; exact Calls.quiet_of_same (c3 _)) | (go_at_call 53; exact Calls.quiet_of_same (c2 _)))
        go_wp2
        go_ret3
        obtain ⟨a1, a2, a3⟩ := unhide F
        exact ⟨by rw [a1, a2, a3]; rfl, _, rfl⟩
      · have F := hide ((unhide hq).bad (fun k => hi ⟨k.2.2.1, by have := k.2.2.2; omega⟩))
        have HI := hide hi
        clear hi hq h
        go_enter Try.func65, Try.ntmps65
        go_wp2_with fail
        refine c1.mono ?_
        rintro e w' ⟨rfl, rfl⟩
        go_wp2_with fail
        refine (sSome t 0 true _ (hide ⟨fun _ => unhide HT, fun _ => rfl⟩)).mono ?_
        rintro e w' ⟨rfl, rfl⟩
        go_wp2_with fail
        refine (sIn i 0 (n - 1) false _ (hide ⟨fun h => Bool.noConfusion h, fun h => absurd h (unhide HI)⟩)).mono ?_
        rintro e w' ⟨rfl, rfl⟩
        go_wp2
        go_ret3
        obtain ⟨a1, a2, a3⟩ := unhide F
        exact ⟨by rw [a1, a2, a3]; rfl, 0, rfl⟩
    · have F := hide ((unhide hq).bad (fun k => ht k.2.1))
      have HT := hide ht
      clear ht hq h
      go_enter Try.func65, Try.ntmps65
      go_wp2_with fail
      refine c1.mono ?_
      rintro e w' ⟨rfl, rfl⟩
      go_wp2_with fail
      refine (sSome t 0 false _ (hide ⟨fun h => Bool.noConfusion h, fun h => absurd h (unhide HT)⟩)).mono ?_
      rintro e w' ⟨rfl, rfl⟩
      go_wp2
      go_ret3
      obtain ⟨a1, a2, a3⟩ := unhide F
      exact ⟨by rw [a1, a2, a3]; rfl, 0, rfl⟩
  · have F := hide ((unhide hq).bad (fun k => hg k.1))
    have c1 := sWeights w g n cap xs false hl h20 h (hide ⟨fun k => Bool.noConfusion k, fun k => absurd k hg⟩)
    clear hg hq h
    go_enter Try.func65, Try.ntmps65
    go_wp2_with fail
    refine c1.mono ?_
    rintro e w' ⟨rfl, rfl⟩
    go_wp2
    go_ret3
    obtain ⟨a1, a2, a3⟩ := unhide F
    exact ⟨by rw [a1, a2, a3]; rfl, 0, rfl⟩

theorem md_bad (t x s : Int) (ht : ¬ Tot t) : MDBad t x s := by unfold MDBad; unfold Tot at ht; omega

end Go.Proofs.Ytdnpjjbphamcmaa.Quota
