/- The program's readers of books: whether an account is a holder, an instrument a paper or a cash; numbers that are in their range; whether accounts and instruments are there. -/
import Derived.Test.YtlbdfaahcmlddaaBMem
import Derived.Test.YtlbdfaahcmlddaaInts
namespace Go.Proofs.Ytlbdfaahcmlddaa.IRead
open Go.ChangeShapes Go.WideShapes Go.ChangeAt Go.RowKit BMem Bks
open Lots (Says says_of NoOk)
set_option linter.unusedVariables false
set_option linter.unusedSimpArgs false

/-- A bool is what it tells. -/
theorem bool_eq {b : Bool} {p : Prop} [Decidable p] (h : Says b p) : decide p = b := by
  cases b
  · exact decide_eq_false h.no
  · exact decide_eq_true h.yes

theorem beq_of {t : Bool} {r k : Int} (h : Says t (r = k)) : (r == k) = t := by
  cases t
  · have := h.no
    simpa using this
  · have := h.yes
    simpa using this
theorem says_beq (r k : Int) : Says (r == k) (r = k) := by
  constructor <;> simp

theorem ret_bool {a b : Bool} (h : a = b) : Ending.returned (.bool a) = .returned (.bool b) := by rw [h]


theorem enters {P : Program} {f : FuncId} {fn : Func} {c : Code} (hf : P.funcs[f]? = some fn) (hn : (fn.name == "runtime.NumGoroutine") = false) (hb : fn.body = some c) (args : Array Value) (w : World) :
    (callFunc f args).run P w = .ok (.enter f args) w := by
  have h1 : fn.name ≠ "runtime.NumGoroutine" := by simpa using hn
  simp [callFunc, hf, h1, hb]

/-- Where a function tells of a number: the library's IndexFunc, at a function that answers the same in every world. -/
def FirstAt (xs : List Int) (p : Int → Bool) (r : Int) : Prop := (r = -1 ∧ ∀ x ∈ xs, p x = false) ∨ (0 ≤ r ∧ ∃ x ∈ xs, p x = true)

set_option maxRecDepth 100000 in
set_option maxHeartbeats 1000000 in
theorem iIndexF (w : World) (g n cap K : Nat) (caps : Array Value) (xs : List Int) (p : Int → Bool) (hl : xs.length = n) (h20 : n ≤ 1048576) (hg : g < w.heap.size) (h : Ints.At w g xs)
    (hK : ∀ (args : Array Value) (u : World), (callFunc K args).run Try.prog u = .ok (.enter K args) u) (hf : ∀ (u : World) (y : Int), Below w.heap.size w u → Calls Try.prog K (#[.int .i64 y] ++ caps) u fun e u' => e = .returned (.bool (p y)) ∧ Below u.heap.size u u') :
    Calls Try.prog 19 #[.slice (some ⟨g, 0, none⟩) n cap, .func (.func K) #[] caps] w fun e w' => ∃ r, FirstAt xs p r ∧ e = .returned (.int .i64 r) ∧ Below w.heap.size w w' := by
  have H := hide h
  have HF := hide hf
  have HL := hide hl
  clear h hf hl
  go_enter Try.func19, Try.ntmps19
  go_wp2_with fail
  go_loopw [8] (fun i wr => ∃ (k : Nat), k ≤ n ∧ i = .int .i64 k ∧ (∀ j, j < k → p (xs.getD j 0) = false) ∧ Below w.heap.size w wr) (fun i _ => n - (intOf i).toNat)
  case atStart => exact ⟨0, by omega, rfl, fun j hj => by omega, Below.refl _ _⟩
  case round =>
    obtain ⟨k, hk, rfl, hn, hb⟩ := hrel
    have HB := hide hb
    have HN := hide hn
    by_cases t : k < n
    · have hc := (hb.cell (p := ⟨g, k, none⟩) hg).trans ((unhide H) k (by rw [unhide HL]; exact t))
      have hM : xs.getD k 0 ∈ xs := by
        simp [List.getD, unhide HL, t]
      have HM := hide hM
      clear hb hn hM
      generalize hy : xs.getD k 0 = y at *
      have HY := hide hy
      clear hy
      go_wp2_with fail
      refine ((unhide HF) _ y (unhide HB)).mono ?_
      rintro e w1 ⟨rfl, b1⟩
      have B1 := hide (next (unhide HB) b1)
      clear b1 hc
      cases hp : p y
      · go_wp2
        go_roundw
        case rel => exact ⟨k + 1, by omega, by go_num, fun j hj => by
          by_cases e : j = k
          · subst e; rw [unhide HY]; exact hp
          · exact (unhide HN) j (by omega), unhide B1⟩
        case measure => simp [intOf]; omega
      · go_wp2
        go_ret
        exact ⟨k, .inr ⟨by omega, y, unhide HM, hp⟩, rfl, unhide B1⟩
    · clear hb hn
      have hkn : k = n := by omega
      have E0 := hide (show ∀ x ∈ xs, p x = false from fun x hx => by
        obtain ⟨j, hj, rfl⟩ := List.getElem_of_mem hx
        have := (unhide HN) j (by rw [unhide HL] at hj; omega)
        simpa [List.getD, hj] using this)
      clear hkn
      go_wp2
      go_ret
      exact ⟨-1, .inl ⟨rfl, unhide E0⟩, rfl, unhide HB⟩

set_option maxRecDepth 100000 in
theorem iContainsF (w : World) (g n cap K : Nat) (caps : Array Value) (xs : List Int) (p : Int → Bool) (b : Bool) (hl : xs.length = n) (h20 : n ≤ 1048576) (hg : g < w.heap.size) (h : Ints.At w g xs)
    (hK : ∀ (args : Array Value) (u : World), (callFunc K args).run Try.prog u = .ok (.enter K args) u) (hf : ∀ (u : World) (y : Int), Below w.heap.size w u → Calls Try.prog K (#[.int .i64 y] ++ caps) u fun e u' => e = .returned (.bool (p y)) ∧ Below u.heap.size u u') (hb : Says b (∃ x ∈ xs, p x = true)) :
    Calls Try.prog 17 #[.slice (some ⟨g, 0, none⟩) n cap, .func (.func K) #[] caps] w fun e w' => e = .returned (.bool b) ∧ Below w.heap.size w w' := by
  have H := hide h
  have HF := hide hf
  have HL := hide hl
  have T := hide hb
  clear h hf hl hb
  go_enter Try.func17, Try.ntmps17
  go_wp2_with fail
  refine (iIndexF _ g n cap K caps xs p (unhide HL) h20 hg (unhide H) hK (unhide HF)).mono ?_
  rintro e w1 ⟨r, hr, rfl, b1⟩
  have B1 := hide b1
  have hd : decide (0 ≤ r) = b := by
    rcases hr with ⟨rfl, hr⟩ | ⟨h0, hr⟩
    · rw [(unhide T).not (fun ⟨x, hx, e⟩ => by rw [hr x hx] at e; cases e)]; rfl
    · rw [(unhide T).of hr]; exact decide_eq_true h0
  clear b1 hr
  go_wp2
  go_ret
  exact ⟨rfl, unhide B1⟩

end Go.Proofs.Ytlbdfaahcmlddaa.IRead
